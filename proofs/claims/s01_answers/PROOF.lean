import PyProof.Rows.All
import Wide.All
import OpenK.AllK
import Wide.FinOn
import Open.SpecLaws
import KE.OsGo
import HandS.ForSpec
import HandS.Comp
import HandS.Dict
import HandS.Iter
import HandS.SetFor
import HandS.WordsDict
import HandS.Codes
import KE.GoesEnum
import HandS.More
import Ge13Spec
import PyGe13
import PyFlatLaws
import PySem.Challenge.RW_stonecave_s01_answers
set_option Elab.async false
set_option maxRecDepth 100000
set_option linter.all false
set_option maxHeartbeats 2000000
namespace U
open PySem PySem.Spec PyProof.Rows L2

/-! ### what a piece gives where the heap stays as it is -/
def Is (te : TE) (σ : L2.St) (H : Hp) (v : V) : Prop := ∀ Q : VK, Q v H → te σ H Q
def IsT (tt : TT) (σ : L2.St) (H : Hp) (b : Bool) : Prop := ∀ Q : Bool → Hp → Prop, Q b H → tt σ H Q
def IsA (ta : TA) (σ : L2.St) (H : Hp) (vs : List V) : Prop := ∀ Q : List V → Hp → Prop, Q vs H → ta σ H Q
/-- a promise that gives v and leaves the heap -/
def Gv (sp : Sp) (vs : List V) (H : Hp) (v : V) : Prop := ∀ (Q : VK) (E : XK), Q v H → sp vs H Q E
/-- an object of a class, its fields in order -/
def Ob (K : PySem.W.Frag) (H : Hp) (a C : Addr) (fs : List (Str × V)) : Prop := ∃ dx, H a = some (.ins C dx fs)
/-- what the text says of a class: that its attributes are plain -/
structure Ck (K : PySem.W.Frag) (C : Addr) (fs : List Str) : Prop where
  cl : Cls K C
  na : ∀ f ∈ fs, NoAttr K C f

section
variable {K : PySem.W.Frag} {σ : L2.St} {H : Hp} {ta tb tc te : TE} {t u : TT} {x y z v w : V}
theorem is_var {i : Nat} (h : σ[i]? = some (some v)) : Is (tVar i) σ H v := fun _ q => ⟨v, h, q⟩
theorem is_c : Is (tC v) σ H v := fun _ q => q
theorem is_fld {a C : Addr} {fs : List (Str × V)} {f : Str} {ns : List Str} (ho : Is te σ H (.ref a)) (h : Ob K H a C fs) (c : Ck K C ns) (hm : f ∈ ns) (l : fs.lookup f = some v) : Is (tFld K te f) σ H v :=
  fun Q q => ho _ (let ⟨dx, e⟩ := h; ⟨a, C, dx, fs, v, rfl, e, c.cl, c.na f hm, l, q⟩)
theorem is_op0 {g : Int → Int → V} {i j : Int} (ha : Is ta σ H (.int i)) (hb : Is tb σ H (.int j)) : Is (tOp (rI0 g) ta tb) σ H (g i j) := fun Q q => ha _ (hb _ ⟨i, j, rfl, rfl, q⟩)
theorem is_opI {C : Int → Int → Prop} {g : Int → Int → V} {i j : Int} (ha : Is ta σ H (.int i)) (hb : Is tb σ H (.int j)) (hc : C i j) : Is (tOp (rI C g) ta tb) σ H (g i j) := fun Q q => ha _ (hb _ ⟨i, j, rfl, rfl, hc, q⟩)
theorem is_un {g : Int → V} {i : Int} (ha : Is ta σ H (.int i)) : Is (tUn (rU g) ta) σ H (g i) := fun Q q => ha _ ⟨i, rfl, q⟩
theorem is_eq (ha : Is ta σ H x) (hb : Is tb σ H y) (h : scal x y = true) : Is (tOp rEq ta tb) σ H (.bl (decide (x = y))) := fun Q q => ha _ (hb _ ⟨h, q⟩)
theorem is_ne (ha : Is ta σ H x) (hb : Is tb σ H y) (h : scal x y = true) : Is (tOp rNe ta tb) σ H (.bl (!decide (x = y))) := fun Q q => ha _ (hb _ ⟨h, q⟩)
theorem int_eq {i j : Int} : decide (V.int i = V.int j) = decide (i = j) := by
  by_cases h : i = j
  · rw [h]; simp
  · rw [decide_eq_false h, decide_eq_false fun e => h (V.int.inj e)]
theorem is_eqI {i j : Int} (ha : Is ta σ H (.int i)) (hb : Is tb σ H (.int j)) : Is (tOp rEq ta tb) σ H (.bl (decide (i = j))) := fun Q q => is_eq ha hb rfl Q (by rw [int_eq]; exact q)
theorem is_neI {i j : Int} (ha : Is ta σ H (.int i)) (hb : Is tb σ H (.int j)) : Is (tOp rNe ta tb) σ H (.bl (!decide (i = j))) := fun Q q => is_ne ha hb rfl Q (by rw [int_eq]; exact q)
theorem is_ixL {p : Addr} {xs : List V} {i : Int} (ha : Is ta σ H (.ref p)) (hb : Is tb σ H (.int i)) (h : SqL K H p xs) (e : atI xs i = some v) : Is (tOp (rIxL K) ta tb) σ H v := fun Q q => ha _ (hb _ ⟨p, xs, i, v, rfl, rfl, h, e, q⟩)
theorem is_ixT {p : Addr} {xs : List V} {i : Int} (ha : Is ta σ H (.ref p)) (hb : Is tb σ H (.int i)) (h : SqT K H p xs) (e : atI xs i = some v) : Is (tOp (rIxT K) ta tb) σ H v := fun Q q => ha _ (hb _ ⟨p, xs, i, v, rfl, rfl, h, e, q⟩)
theorem is_inT {p : Addr} {xs : List V} (ha : Is ta σ H x) (hb : Is tb σ H (.ref p)) (h : SqT K H p xs) (hx : flatV x = true) (hf : xs.all flatV = true) : Is (tOp (rIn K false) ta tb) σ H (.bl (inV x xs)) :=
  fun Q q => ha _ (hb _ ⟨p, xs, rfl, .inr h, hx, hf, q⟩)
theorem is_and {a b : Bool} (ha : Is ta σ H (.bl a)) (hb : a = true → Is tb σ H (.bl b)) : Is (tAndV ta tb) σ H (.bl (a && b)) := fun Q q => ha _ ⟨a, rfl, by
  cases a with
  | true => exact iteT (hb rfl _ q)
  | false => exact iteF q⟩
theorem is_or {a b : Bool} (ha : Is ta σ H (.bl a)) (hb : a = false → Is tb σ H (.bl b)) : Is (tOrV ta tb) σ H (.bl (a || b)) := fun Q q => ha _ ⟨a, rfl, by
  cases a with
  | true => exact iteT q
  | false => exact iteF (hb rfl _ q)⟩
theorem is_not {a : Bool} (ha : Is ta σ H (.bl a)) : Is (tNotV ta) σ H (.bl (!a)) := fun Q q => ha _ ⟨a, rfl, q⟩
theorem is_if {c : Bool} (ht : IsT t σ H c) (h1 : c = true → Is ta σ H v) (h2 : c = false → Is tb σ H v) : Is (tIf t ta tb) σ H v := fun Q q => ht _ (by
  cases c with
  | true => exact iteT (h1 rfl _ q)
  | false => exact iteF (h2 rfl _ q))
/-- both ways by the test -/
theorem is_if2 {c : Bool} (ht : IsT t σ H c) (h1 : Is ta σ H v) (h2 : Is tb σ H w) : Is (tIf t ta tb) σ H (if c = true then v else w) := fun Q q => ht _ (by
  cases c with
  | true => exact iteT (h1 _ q)
  | false => exact iteF (h2 _ q))
theorem is_call {sp : Sp} {dvs vs : List V} {E : XK} {a : TA} (ha : IsA a σ H vs) (hs : Gv sp (vs ++ dvs) H v) : Is (tCall sp dvs E a) σ H v := fun Q q => ha _ (hs Q E q)
theorem is_cb {r : List V → Hp → VK → Prop} {a : TA} {vs : List V} (ha : IsA a σ H vs) (hr : ∀ Q : VK, Q v H → r vs H Q) : Is (tCB r a) σ H v := fun Q q => ha _ (hr Q q)
theorem is_chain {g g' : Int → Int → V} {i j k : Int} {a b : Bool} (ha : Is ta σ H (.int i)) (hb : Is tb σ H (.int j)) (hc : Is tc σ H (.int k)) (e : g i j = .bl a) (e' : g' j k = .bl b) : Is (tChain (rI0 g) (rI0 g') ta tb tc) σ H (.bl (a && b)) :=
  fun Q q => ha _ (hb _ ⟨i, j, rfl, rfl, a, e, by
    cases a with
    | true => exact iteT (hc _ ⟨j, k, rfl, rfl, by rw [e']; exact q⟩)
    | false => exact iteF q⟩)
theorem isT_v {b : Bool} (h : Is te σ H (.bl b)) : IsT (tB te) σ H b := fun Q q => h _ ⟨b, rfl, q⟩
theorem isT_t {b : Bool} (h : Is te σ H (.bl b)) : IsT (tTest te) σ H b := fun Q q => h _ ⟨b, rfl, q⟩
theorem isT_and {a b : Bool} (h1 : IsT t σ H a) (h2 : a = true → IsT u σ H b) : IsT (tAnd t u) σ H (a && b) := fun Q q => h1 _ (by
  cases a with
  | true => exact iteT (h2 rfl _ q)
  | false => exact iteF q)
theorem isT_or {a b : Bool} (h1 : IsT t σ H a) (h2 : a = false → IsT u σ H b) : IsT (tOr t u) σ H (a || b) := fun Q q => h1 _ (by
  cases a with
  | true => exact iteT q
  | false => exact iteF (h2 rfl _ q))
theorem isT_not {a : Bool} (h1 : IsT t σ H a) : IsT (tNot t) σ H (!a) := fun Q q => h1 _ q
theorem isA_nil : IsA tNil σ H [] := fun _ q => q
theorem isA_cons {a : TA} {vs : List V} (h : Is te σ H x) (hr : IsA a σ H vs) : IsA (tCons te a) σ H (x :: vs) := fun _ q => h _ (hr _ q)
theorem is_din {kvs : List (Key × V)} {d : Addr} {k : Key} (ha : Is ta σ H (kV k)) (hb : Is tb σ H (.ref d)) (h : H d = some (.dK kvs)) : Is (tDIn ta tb) σ H (.bl (valV kvs k).isSome) :=
  fun Q q => ha _ (hb _ ⟨d, _, rfl, DGet.k h, q⟩)
theorem is_dnotin {kvs : List (Key × V)} {d : Addr} {k : Key} (ha : Is ta σ H (kV k)) (hb : Is tb σ H (.ref d)) (h : H d = some (.dK kvs)) : Is (tDNotIn ta tb) σ H (.bl (!(valV kvs k).isSome)) :=
  fun Q q => ha _ (hb _ ⟨d, _, rfl, DGet.k h, q⟩)
theorem is_dget {kvs : List (Key × V)} {d : Addr} {k : Key} (hb : Is tb σ H (.ref d)) (ha : Is ta σ H (kV k)) (h : H d = some (.dK kvs)) (e : valV kvs k = some v) : Is (tDGet tb ta) σ H v :=
  fun Q q => hb _ (ha _ ⟨d, v, rfl, by rw [← e]; exact DGet.k h, q⟩)
theorem is_cnt {p : Addr} {ns : List Int} {k : Int} {a : TA} (ho : Is te σ H (.ref p)) (ha : IsA a σ H [.int k]) (h : H p = some (.lst (ns.map V.int))) : Is (tBM K "list" (rCntI K) te a) σ H (.int (ns.count k : Nat)) :=
  fun Q q => ho _ ⟨.inl ⟨rfl, _, SqL.of h⟩, ha _ ⟨p, ns, k, rfl, rfl, SqL.of h, q⟩⟩

/-- len of a list or tuple -/
def rLen (K : PySem.W.Frag) : List V → Hp → VK → Prop := fun xs H Q => ∃ p ys, xs = [.ref p] ∧ (SqL K H p ys ∨ SqT K H p ys) ∧ Q (.int ys.length) H
theorem is_len {p : Addr} {xs : List V} (h : Is te σ H (.ref p)) (q : SqL K H p xs) : Is (tCB (rLen K) (tCons te tNil)) σ H (.int (xs.length : Int)) := is_cb (isA_cons h isA_nil) fun Q k => ⟨p, xs, rfl, .inl q, k⟩
/-! ### statements -/
variable {D : Ends}
theorem s_set {i : Nat} (h : Is te σ H v) (k : D.nx (σ.set i (some v)) H) : tAsg te (gName i) D σ H := h _ k
theorem s_drop (h : Is te σ H v) (k : D.nx σ H) : tDrop te D σ H := h _ k
theorem s_ret (h : Is te σ H v) (k : D.rt v H) : tRet te D σ H := h _ k
theorem s_if {b : Bool} {p q : TS} (h : IsT t σ H b) (h1 : b = true → p D σ H) (h2 : b = false → q D σ H) : tIfS t p q D σ H := h _ (by
  cases b with
  | true => exact iteT (h1 rfl)
  | false => exact iteF (h2 rfl))
theorem s_fld {a C : Addr} {fs : List (Str × V)} {f : Str} {ns : List Str} (hv : Is tb σ H v) (ho : Is ta σ H (.ref a)) (h : Ob K H a C fs) (c : Ck K C ns) (hm : f ∈ ns) (hl : fs.length < 1000)
    (k : ∀ dx, H a = some (.ins C dx fs) → D.nx σ (upd H a (.ins C dx (putF f v fs)))) : sFld K ta tb f D σ H :=
  hv _ (ho _ (let ⟨dx, e⟩ := h; ⟨a, C, dx, fs, rfl, e, c.cl, c.na f hm, hl, k dx e⟩))
theorem s_fldaug {a C : Addr} {fs : List (Str × V)} {f : Str} {ns : List Str} {i j : Int} (ho : Is ta σ H (.ref a)) (h : Ob K H a C fs) (c : Ck K C ns) (hm : f ∈ ns) (l : fs.lookup f = some (.int i)) (hv : Is tb σ H (.int j)) (hl : fs.length < 1000)
    (k : ∀ dx, H a = some (.ins C dx fs) → D.nx σ (upd H a (.ins C dx (putF f (.int (i + j)) fs)))) : sFldAug K ta tb L2.rAdd f D σ H :=
  ho _ (let ⟨dx, e⟩ := h; ⟨a, C, dx, fs, _, rfl, e, c.cl, c.na f hm, l, hv _ ⟨i, j, rfl, rfl, dx, fs, e, hl, k dx e⟩⟩)
/-- xs[i] = v -/
theorem s_setL {p : Addr} {xs : List V} {i : Int} {j : Nat} (hv : Is te σ H v) (ho : Is ta σ H (.ref p)) (hi : Is tb σ H (.int i)) (h : H p = some (.lst xs)) (e : ixN xs.length i = some j) (k : D.nx σ (upd H p (.lst (xs.set j v)))) :
    tAsg te (gSub ta tb rSetL) D σ H := hv _ (ho _ (hi _ ⟨p, xs, i, j, rfl, rfl, h, e, k⟩))
/-- d[k] = v -/
theorem s_dput {d : Addr} {kvs : List (Key × V)} {k : Key} (hv : Is tc σ H v) (ho : Is ta σ H (.ref d)) (hk : Is tb σ H (kV k)) (h : H d = some (.dK kvs)) (hl : kvs.length < sizeLine) (q : D.nx σ (upd H d (.dK (putK kvs k v)))) :
    sDPut ta tb tc D σ H := hv _ (ho _ (hk _ ⟨d, _, rfl, DPut.k h hl, q⟩))
/-- xs.append(e) -/
theorem s_append {p : Addr} {xs : List V} {a : TA} (ho : Is te σ H (.ref p)) (ha : IsA a σ H [v]) (h : H p = some (.lst xs)) (hl : xs.length < sizeLine) (k : D.nx σ (upd H p (.lst (xs ++ [v])))) : tDrop (tBM K "list" rAppend te a) D σ H :=
  ho _ ⟨.inl ⟨rfl, _, SqL.of h⟩, ha _ ⟨p, xs, v, rfl, rfl, h, hl, k⟩⟩
end
theorem ixN_nat {n i : Nat} (h : i < n) : ixN n (i : Int) = some i := by
  unfold ixN
  rw [if_pos (by omega), if_pos (by omega)]
  simp
/-- ints of numbers -/
def iv (n : Nat) : V := .int (n : Int)
theorem at_iv {l : List Nat} {i n : Nat} (h : l[i]? = some n) : atI (l.map iv) (i : Int) = some (.int (n : Int)) := atI_nat (by rw [List.getElem?_map, h]; rfl)
/-- `C()` -/
theorem pe_mk0 {X : Cx} {k j : Nat} {C : Addr} {x : Str} {sp : Sp} {dvs : List V} {p pos : Pos} (c : C8.Mak X.prog X.w X.K X.mg X.base k x C sp dvs) (hr : Room j X.A) (hk : k + 1 ≤ j) (hg : Gl X x)
    (hdb : (x == ("__debug__" : Str)) = false := by decide) : PE X (.Call (.Name x p) [] [] pos) (tMake C sp dvs C8.E0 tNil) := by
  obtain ⟨f, fd, ps, ds, M, F, hm, b, d⟩ := c.ex
  exact pe_make0 M F (hr.mono hk) hg hm b d C8.pass0 hdb
end U
namespace U
open PySem PySem.Spec PyProof.Rows L2
/-- a def of the module under its name, without defaults -/
def Dd (K : PySem.W.Frag) (mg : Str → Option Value) (x : Str) (st : Stmt) (ps : List Str) : Prop := ∃ f fd, C8.Def K mg x st f fd ∧ Binds K fd ps []
/-- a class that is made by its name -/
def Mkd (K : PySem.W.Frag) (mg : Str → Option Value) (x q : Str) (C : Addr) (st : Stmt) (ps : List Str) : Prop := ∃ f fd, Mk K C f ∧ mg x = some (.ref C) ∧ C8.Fun K "__init__" q st f fd ∧ Binds K fd ps []
end U

set_option Elab.async false
set_option linter.all false
set_option maxRecDepth 100000
set_option maxHeartbeats 2000000
/-! enumerate over a tuple, for the layer -/
namespace PySem
open Sem (wp)
set_option maxHeartbeats 1000000 in
theorem u_enum_new {v : Value} {o : Obj} {Hh : Heap → Prop} (B : Begins v o Hh) :
    Meets (Builtin.«enumerate.__new__» ⟨[.type "enumerate", v], []⟩) (fun _ R s => Hh s.heap ∧ R (.ok (.ret (.ref (s.heap.push o).objs.size))) { s with heap := (s.heap.push o).push { cls := .type "enumerate", data := .fields #[.none, .bool false, .ref s.heap.objs.size, rawInt 0, .none, .none] } }) :=
  .of_wp fun prog w A R s hs => by
    obtain ⟨hp, g, d, tk, os⟩ := s
    obtain ⟨hs1, hs2⟩ := hs
    have sub1 := sub_enumerate
    have turn : ∀ {A' : Around} {E : Value → Shared → Prop} {Q : Value → Shared → Prop}, Q (.ref hp.objs.size) ⟨hp.push o, g, d, tk, os⟩ → wpAny (model prog w) A' (pyIter v) Q E ⟨hp, g, d, tk, os⟩ := by
      intro A' E Q z
      exact B.iter prog w A' E ⟨hp, g, d, tk, os⟩ Q hs1 z
    wp_walk using turn
    refine wpAny_stack_any fun fr => wpAny_pure (?_)
    split
    · rename_i cl _ _ _ _ _
      cases (cl == Value.type "enumerate") <;> (wp_walk using turn; exact ⟨_, rfl, hs2⟩)
    · wp_walk using turn
      exact ⟨_, rfl, hs2⟩
theorem u_enum_begins {prog : Program} {w : World} {A : Around} {E : Value → Shared → Prop} {s : Shared} {v : Value} {o : Obj} {Hh : Heap → Prop} {Q : Value → Shared → Prop} (B : Begins v o Hh) (h1 : Hh s.heap)
    (k : ∀ h', IsEnum h' (s.heap.objs.size + 1) s.heap.objs.size 0 .none → h'.get? s.heap.objs.size = some o → (∀ b u, s.heap.get? b = some u → h'.get? b = some u) → Q (.ref (s.heap.objs.size + 1)) { s with heap := h' }) :
    wpAny (model prog w) A (call (.type "enumerate") [v]) Q E s := by
  refine callType_new F.called_enumerate (by decide) (F.typeCall_enumerate_1 _) (F.newCall_enumerate_1 _) (fun ob => F.args_object_init_2 ob _) F.entry_enumerate_new (u_enum_new B) ⟨h1, ?_⟩
  have size1 : (s.heap.push o).objs.size = s.heap.objs.size + 1 := Heap.size_push ..
  show _ ∧ _
  rw [size1]
  have isE : IsEnum ((s.heap.push o).push { cls := .type "enumerate", data := .fields #[.none, .bool false, .ref s.heap.objs.size, rawInt 0, .none, .none] }) (s.heap.objs.size + 1) s.heap.objs.size 0 .none := by
    have z := Heap.get?_push_size (s.heap.push o) (o := { cls := .type "enumerate", data := .fields #[.none, .bool false, .ref s.heap.objs.size, rawInt 0, .none, .none] }) rfl
    rw [size1] at z
    exact z
  exact ⟨⟨_, isE, rfl⟩, k _ isE (Heap.get?_push_of_some _ (Heap.get?_push_size _ B.free)) fun b u x => Heap.get?_push_of_some _ (Heap.get?_push_of_some _ x)⟩
end PySem
namespace U
open PySem PySem.Spec PyProof.Rows L2
/-- the pairs of a tuple's places and items, each a new tuple -/
def Itte (K : PySem.W.Frag) (a : Addr) : It where
  go := fun i H => ∃ (xs : List V) (x : V), SqT K H a xs ∧ xs[i]? = some x
  yld := fun i H v H' => ∃ T x, v = .ref T ∧ H T = none ∧ H' = upd H T (.tup [.int (i : Nat), x]) ∧ ∀ xs, SqT K H a xs → xs[i]? = some x
  stop := fun i H => ∃ xs : List V, SqT K H a xs ∧ xs.length = i
theorem turn_enumT {P : Program} {w : World} {K : PySem.W.Frag} {elts : List Expr} {kk : Nat} {tpos : Pos} (a e it : Addr) :
    Turn P w K (.Tuple elts kk tpos) (Itte K a) [e, it] e (fun i h => (∃ old, IsEnum h e it ((i : Nat) : Int) old) ∧ h.IsTupleIter it a i ∧ e ≠ it) where
  mem := List.mem_cons_self ..
  obj := fun i h st b hb => by
    obtain ⟨⟨old, he⟩, ⟨o, ho, hc, hd⟩, _⟩ := st
    rcases List.mem_cons.mp hb with z | z
    · exact ⟨_, by rw [z]; exact he, fun v q => by cases q⟩
    · exact ⟨o, by rw [List.mem_singleton.mp z]; exact ho, fun v q => by rw [hd] at q; cases q⟩
  keep := fun i h h' ⟨⟨old, he⟩, hi, hne⟩ k => ⟨⟨old, k e (by simp) _ he⟩, hi.at fun o q => k it (by simp) o q, hne⟩
  item := by
    intro X hP hw hK hc i pins s σ H E I hf ⟨⟨old, he⟩, hit, hne⟩ ⟨xs, x, hq, hx⟩
    subst hP hw hK
    obtain ⟨its, rv, p, hz⟩ := I.tuple hq
    have p : s.heap.IsTuple a its.toArray := p
    obtain ⟨u, hu, ru⟩ := rv.get hx
    have lt1 : e < s.heap.objs.size := Heap.lt_size he
    have lt2 : it < s.heap.objs.size := by
      obtain ⟨_, q, _⟩ := hit
      exact Heap.lt_size q
    have nat : a ≠ it := fun z => by
      obtain ⟨o1, q1, c1, _⟩ := p
      obtain ⟨o2, q2, c2, _⟩ := hit
      rw [z, q2] at q1
      cases q1
      rw [c2] at c1
      exact absurd c1 (by decide)
    have nae : a ≠ e := fun z => by
      obtain ⟨o1, q1, c1, _⟩ := p
      rw [z] at q1
      have he' : s.heap.get? e = some _ := he
      rw [he'] at q1
      cases q1
      exact absurd (Value.type.inj c1) (by decide)
    have D := Draws.tuple (prog := X.prog) (w := X.w) (A := X.A.in1) (show X.A.in1.handled = none from I.ok.hd hc) it a nat its.toArray
    have ilt : i < its.toArray.size := by
      have z := (List.getElem?_eq_some_iff.mp hu).1
      simpa using z
    refine wpAny_pyNext_enum_itemD D he ⟨hit, p⟩ ilt hne (by simp [hne, Ne.symm nae]) fun y h' tk hy ho st' hT hsz hk => ?_
    have yu : y = u := by
      have z : its.toArray[i]? = some y := hy
      have z2 : its[i]? = some y := by simpa using z
      rw [hu] at z2
      exact (Option.some.inj z2).symm
    subst yu
    refine ⟨_, rfl, wpAny_letOwnedTupleGo_enum (s := { s with heap := h', toks := tk + 1 }) ho fun h2 he2 sb => ?_⟩
    have tup2 : h2.get? s.heap.objs.size = some { cls := .type "tuple", data := .seq #[.int i tk, y] } := (sb.2 _ (Nat.ne_of_gt lt1)).trans hT
    have fresh : ObjOk X.prog X.w (upd H s.heap.objs.size (.tup [.int (i : Nat), x])) h2 s.heap.objs.size (.tup [.int (i : Nat), x]) := by
      refine ⟨by show 2 ≤ sizeLine; decide, [.int i tk, y], .cons ⟨_, rfl⟩ (.cons ru .nil), ?_⟩
      exact ⟨_, tup2, rfl, _, rfl⟩
    have I1 : Inv X pins σ (upd H s.heap.objs.size (.tup [.int (i : Nat), x])) { s with heap := h2, toks := tk + 1 } := by
      refine I.turnedNew (ch := [e, it]) (fun b ob hb q => ?_) hf (Nat.le_refl _) fresh
      have n1 : b ≠ e := fun z => hb (by simp [z])
      have n2 : b ≠ it := fun z => hb (by simp [z])
      exact (sb.2 b n1).trans (hk b ob n1 n2 q)
    refine ⟨.ref s.heap.objs.size, _, I1, rfl, ⟨_, x, rfl, I.hok.fresh (Nat.le_refl _), rfl, fun ys hy => by rw [I.tuple_inj hy hq]; exact hx⟩, ⟨⟨y, ?_⟩, st'.1.at fun o q => (sb.2 it (Ne.symm hne)).trans q, hne⟩, fun b hb => ?_⟩
    · have e1 : ((i + 1 : Nat) : Int) = (i : Int) + 1 := by omega
      rw [e1]
      exact he2
    · have hlt : b < s.heap.objs.size := by
        rcases List.mem_cons.mp hb with z | z
        · rw [z]; exact lt1
        · rw [List.mem_singleton.mp z]; exact lt2
      rw [upd_ne (Nat.ne_of_lt hlt)]
      exact (hf b hb).1
  done := by
    intro X hP hw hK hc i pins s σ H E I hf ⟨⟨old, he⟩, hit, hne⟩ ⟨xs, hq, hx⟩
    subst hP hw hK
    obtain ⟨its, rv, p, hz⟩ := I.tuple hq
    have p : s.heap.IsTuple a its.toArray := p
    have nat : a ≠ it := fun z => by
      obtain ⟨o1, q1, c1, _⟩ := p
      obtain ⟨o2, q2, c2, _⟩ := hit
      rw [z, q2] at q1
      cases q1
      rw [c2] at c1
      exact absurd c1 (by decide)
    obtain ⟨f0, f1, f2, f3, f4, f5⟩ := hf it (by simp)
    have D := Draws.tuple (prog := X.prog) (w := X.w) (A := X.A.in1) (show X.A.in1.handled = none from I.ok.hd hc) it a nat its.toArray
    have hn : its.toArray.size = i := by
      have z := rv.length
      simp
      omega
    exact wpAny_pyNext_enum_endD D he (by rw [hn]; exact ⟨hit, p⟩) fun h' eb => ⟨rfl, I.turned (t' := s.toks) (fun b o hb q => eb b o hb q) f0 f1 f3 f4 f5⟩
  self := fun A i s Q E ⟨⟨_, he⟩, _⟩ h => wpAny_pyIter_enum he h
def iEnumT (K : PySem.W.Frag) (ta : TA) : TI := fun σ H R => ta σ H fun vs H1 => ∃ a xs, vs = [.ref a] ∧ SqT K H1 a xs ∧ R (Itte K a) H1
theorem pi_enumT {X : Cx} {e : Expr} {ta : TA} {p pos tpos : Pos} {elts : List Expr} {kk : Nat} (hg : Gl X "enumerate") (hm : X.mg "enumerate" = none) (ha : PA X [e] ta) (hs : starEach [e] X.env = [(false, eval e X.env)] := by rfl) :
    PI X (.Tuple elts kk tpos) (.Call (.Name "enumerate" p) [e] [] pos) (iEnumT X.K ta) := by
  refine ⟨fun pins s σ H R I h => Call_ (ld_blt I hg hm boot_enumerate (callWith_type1 (thn (ha.run pos pins s σ H _ I h) fun us s1 q0 => ?_) hs rfl))⟩
  obtain ⟨vs, H1, I1, r1, a, xs, ex, hq, q⟩ := q0
  subst ex
  cases r1 with
  | cons r rr =>
    cases rr
    cases r
    obtain ⟨its, rv, pt, hz⟩ := I1.tuple hq
    have pt : s1.heap.IsTuple a its.toArray := pt
    refine u_enum_begins (begins_tuple a its.toArray) pt fun h' he hit hk => wpAny_pyIter_enum he ?_
    have I2 : Inv X pins σ H1 { s1 with heap := h' } := I1.kept (t' := s1.toks) hk
    refine ⟨s1.heap.objs.size + 1, [s1.heap.objs.size + 1, s1.heap.objs.size], _, _, H1, rfl, I2, turn_enumT a _ s1.heap.objs.size, ⟨⟨.none, he⟩, ⟨_, hit, rfl, rfl⟩, Nat.succ_ne_self _⟩, fun b hb => ?_, q⟩
    have big : s1.heap.objs.size ≤ b := by
      rcases List.mem_cons.mp hb with z | z
      · rw [z]; exact Nat.le_succ _
      · rw [List.mem_singleton.mp z]; exact Nat.le_refl _
    exact I1.fpOk big (I1.hok.fresh big)
end U

set_option Elab.async false
set_option linter.all false
set_option maxRecDepth 100000
set_option maxHeartbeats 2000000
/-! a written dict with int keys, read; a call of what an expression gives -/
namespace U
open PySem PySem.Spec PyProof.Rows L2
/-- entries of ints -/
inductive Ents : List DictEntry → List (Int × Int) → Prop
  | nil : Ents [] []
  | cons {e : DictEntry} {k v : Int} {es : List DictEntry} {kvs : List (Int × Int)} (hk : ∃ t, e.key = .int k t) (hh : e.hash = hashInt k) (hv : ∃ t, e.val = .int v t) (r : Ents es kvs) : Ents (e :: es) ((k, v) :: kvs)
/-- a dict of the top, ints to ints -/
def KInt (K : PySem.W.Frag) (p : Addr) (kvs : List (Int × Int)) : Prop := ∃ es n, K.lookup p = some ⟨.type "dict", none, .dict es n, #[]⟩ ∧ Ents es.toList kvs
theorem Ents.keys {P : Program} {w : World} : ∀ {es : List DictEntry} {kvs : List (Int × Int)}, Ents es kvs → ∀ e ∈ es, ∃ k, (mixKind P w).is k e.key = true ∧ e.hash = (mixKind P w).hash k
  | _, _, .nil, e, he => by cases he
  | _ :: _, (k, _) :: _, .cons ⟨t, hk⟩ hh hv r, e, he => by
    rcases List.mem_cons.mp he with z | z
    · refine ⟨.inl k, ?_, ?_⟩
      · rw [z, hk]
        exact keyIs_int _ t
      · rw [z]
        exact hh
    · exact r.keys e z
theorem Ents.look : ∀ {es : List DictEntry} {kvs : List (Int × Int)} {i v : Int}, Ents es kvs → kvs.lookup i = some v → ∃ t, (es.find? fun e => keyIs (.inl i) e.key).map (·.val) = some (.int v t)
  | _, _, i, v, .nil, h => by cases h
  | e :: es, (k, u) :: kvs, i, v, .cons ⟨t, hk⟩ hh ⟨t', hv⟩ r, h => by
    by_cases c : i = k
    · subst c
      have q : keyIs (.inl i) e.key = true := by rw [hk]; exact keyIs_int i t
      have z : u = v := by
        rw [List.lookup_cons, beq_self_eq_true] at h
        exact Option.some.inj h
      exact ⟨t', by rw [List.find?_cons, q]; show some e.val = _; rw [hv, z]⟩
    · have q : keyIs (.inl i) e.key = false := by
        rw [hk]
        show Value.isInt i (.int k t) = false
        unfold Value.isInt
        exact beq_eq_false_iff_ne.mpr fun z => c z.symm
      have h' : kvs.lookup i = some v := by
        rw [List.lookup_cons, beq_eq_false_iff_ne.mpr c] at h
        exact h
      obtain ⟨t2, z⟩ := r.look h'
      exact ⟨t2, by rw [List.find?_cons, q]; exact z⟩
def rIxKI (K : PySem.W.Frag) : R2 := fun x y H Q => ∃ (p : Addr) (i v : Int) (kvs : List (Int × Int)), x = .ref p ∧ y = .int i ∧ KInt K p kvs ∧ kvs.lookup i = some v ∧ Q (.int v) H
theorem ix_kd {X : Cx} : IxR X (rIxKI X.K) := by
  intro value slice pins s σ H x y v u Q I rx ry h hs
  obtain ⟨p, i, z, kvs, rfl, rfl, ⟨es, n, hl, he⟩, hz, q⟩ := h
  obtain rfl : v = Value.ref p := rx
  obtain ⟨t, rfl⟩ := ry
  have hm : s.heap.MapOf (mixKind X.prog X.w) p (findBy (mixKind X.prog X.w).is es) := ⟨_, es, n, I.kIn p _ hl, ⟨rfl, rfl, rfl⟩, rfl, fun e hmem => he.keys e (Array.mem_toList_iff.mpr hmem), fun k => rfl⟩
  obtain ⟨t2, z2⟩ := he.look hz
  have hf : findBy (mixKind X.prog X.w).is es (.inl i) = some (.int z t2) := by
    unfold findBy
    rw [← Array.find?_toList]
    exact z2
  have key : (mixKind X.prog X.w).is (.inl i) (.int i t) = true := keyIs_int i t
  exact tail_any hm.typeIs slot_dict_getitem.lookup (wpAny_getItem_of key hm hf ⟨.int z, H, I.tok _, ⟨t2, rfl⟩, q⟩) hs
theorem is_kd {K : PySem.W.Frag} {σ : L2.St} {H : Hp} {ta tb : TE} {p : Addr} {i v : Int} {kvs : List (Int × Int)} (ha : Is ta σ H (.ref p)) (hb : Is tb σ H (.int i)) (h : KInt K p kvs) (e : kvs.lookup i = some v) : Is (tOp (rIxKI K) ta tb) σ H (.int v) :=
  fun Q q => ha _ (hb _ ⟨p, i, v, kvs, rfl, rfl, h, e, q⟩)
/-- f(e, ..) where f is an expression: one of the top's defs -/
def tCallE (P : Program) (w : World) (K : PySem.W.Frag) (mg : Str → Option Value) (base : Heap) (k : Nat) (tf : TE) (t : TA) : TE := fun σ H Q => tf σ H fun x H1 => ∃ (f : Addr) (sp : Sp), x = .ref f ∧ C8.CalAt P w K mg base k f sp ∧ t σ H1 fun vs H2 => sp vs H2 Q C8.E0
theorem pe_callE {X : Cx} {k j : Nat} {a b e : Expr} {es : List Expr} {tf : TE} {t : TA} {p pos : Pos} (hf : PE X (.Subscript a b p) tf) (hr : Room j X.A) (hk : k ≤ j) (ha : PA X (e :: es) t)
    (hs : starEach (e :: es) X.env = (false, eval e X.env) :: starEach es X.env := by rfl) (hpl : (backTo pos (starEach es X.env)).any (·.1) = false := by rfl) :
    PE X (.Call (.Subscript a b p) (e :: es) [] pos) (tCallE X.prog X.w X.K X.mg X.base k tf t) := by
  refine ⟨fun pins s σ H Q I h => ?_⟩
  have arm : eval (.Call (.Subscript a b p) (e :: es) [] pos) X.env = (do
      let g ← eval (.Subscript a b p) X.env
      callWith pos g [] (backTo pos (starEach (e :: es) X.env)) (backToKw pos (keywordEach [] X.env))) := rfl
  rw [arm]
  refine wpAny_bind (thn (hf.run pins s σ H _ I h) fun u s1 q1 => ?_)
  obtain ⟨x, H1, I1, rx, f, sp, ex, ⟨fd, ps, F, kp, bd⟩, ht⟩ := q1
  subst ex
  obtain rfl : u = Value.ref f := rx
  refine PySem.W.callWith_K (h₀ := X.base) I.ok.mod.kin kp (thn (ha.run pos pins s1 σ H1 _ I1 ht) fun us s2 q2 => ?_) hs hpl
  obtain ⟨vs, H2, I2, rv, q⟩ := q2
  refine ⟨I2.kIn, run_fn (E := C8.E0) F (hr.mono hk) bd .nil C8.pass0 I2 rv ?_⟩
  rw [List.append_nil]
  exact q
/-- a def's promise by its address -/
theorem calAt_of {P : Program} {w : World} {K : PySem.W.Frag} {mg : Str → Option Value} {base : Heap} {k j : Nat} {x : Str} {sp : Sp} {f : Addr} (c : C8.Cal P w K mg base k x sp []) (h : mg x = some (.ref f)) (hj : k ≤ j) : C8.CalAt P w K mg base j f sp := by
  obtain ⟨f', fd, ps, ds, F, hm, kp, b, d⟩ := c.ex
  rw [h] at hm
  cases hm
  cases d
  exact ⟨fd, ps, F.mono hj, kp, b⟩
end U
namespace U
open PySem PySem.Spec PyProof.Rows L2
/-! ### the facts of the top -/
section
variable {K : PySem.W.Frag} {h : Heap} {mg : Str → Option Value}
theorem dd_mk {x : Str} {st : Stmt} {ps : List Str} {f : Addr} {oc kV doc pm cdv ct : Value} {od an : Option Addr} {osl : Array (Option Value)} (X : K.In h) (G : h.Ns mainGlobals mg)
    (a : PySem.W.nsIn K mainGlobals x = some (some (.ref f))) (l : K.lookup f = some ⟨oc, od, .func (PySem.W.fnOf x x (C8.fnArgs st) (C8.fnBody st) (C8.fnScope st) .none kV doc pm an cdv ct), osl⟩)
    (c : PySem.W.codeIn K cdv x = true) (k : PySem.W.keepIn K (.ref f) = true)
    (b : ∀ (kV doc pm : Value) (an : Option Addr) (cdv ct : Value) (us : List Value), us.length = ps.length → bindArgs (PySem.W.fnOf x x (C8.fnArgs st) (C8.fnBody st) (C8.fnScope st) .none kV doc pm an cdv ct) ⟨us, []⟩ = pure (ps.zip us)) : Dd K mg x st ps :=
  have F : C8.Fun K x x st f (PySem.W.fnOf x x (C8.fnArgs st) (C8.fnBody st) (C8.fnScope st) .none kV doc pm an cdv ct) := ⟨⟨oc, od, .none, kV, doc, pm, an, cdv, ct, osl, rfl, l, c⟩⟩
  ⟨f, _, ⟨F, PySem.W.mg_of X G a, k⟩, C8.Fun.binds F rfl b⟩
/-- the def that is called from outside, its object told -/
theorem def_mk {x : Str} {st : Stmt} {f : Addr} {oc kV doc pm cdv ct : Value} {od an : Option Addr} {osl : Array (Option Value)} (X : K.In h) (G : h.Ns mainGlobals mg)
    (a : PySem.W.nsIn K mainGlobals x = some (some (.ref f))) (l : K.lookup f = some ⟨oc, od, .func (PySem.W.fnOf x x (C8.fnArgs st) (C8.fnBody st) (C8.fnScope st) .none kV doc pm an cdv ct), osl⟩)
    (c : PySem.W.codeIn K cdv x = true) (k : PySem.W.keepIn K (.ref f) = true) : C8.Def K mg x st f (PySem.W.fnOf x x (C8.fnArgs st) (C8.fnBody st) (C8.fnScope st) .none kV doc pm an cdv ct) :=
  ⟨⟨⟨oc, od, .none, kV, doc, pm, an, cdv, ct, osl, rfl, l, c⟩⟩, PySem.W.mg_of X G a, k⟩
theorem mkd_mk {x q : Str} {st : Stmt} {ps : List Str} {C f : Addr} {oc kV doc pm cdv ct : Value} {od an : Option Addr} {osl : Array (Option Value)} (X : K.In h) (G : h.Ns mainGlobals mg)
    (aC : PySem.W.nsIn K mainGlobals x = some (some (.ref C))) (mk : PySem.W.makesIn K C = true) (a : PySem.W.findIn K (.ref C) "__init__" = some (some (.ref f))) (i : PySem.W.isFn K (.ref f) = true) (kc : PySem.W.keepIn K (.ref C) = true)
    (l : K.lookup f = some ⟨oc, od, .func (PySem.W.fnOf "__init__" q (C8.fnArgs st) (C8.fnBody st) (C8.fnScope st) .none kV doc pm an cdv ct), osl⟩) (c : PySem.W.codeIn K cdv q = true)
    (b : ∀ (kV doc pm : Value) (an : Option Addr) (cdv ct : Value) (us : List Value), us.length = ps.length → bindArgs (PySem.W.fnOf "__init__" q (C8.fnArgs st) (C8.fnBody st) (C8.fnScope st) .none kV doc pm an cdv ct) ⟨us, []⟩ = pure (ps.zip us)) : Mkd K mg x q C st ps :=
  have F : C8.Fun K "__init__" q st f (PySem.W.fnOf "__init__" q (C8.fnArgs st) (C8.fnBody st) (C8.fnScope st) .none kV doc pm an cdv ct) := ⟨⟨oc, od, .none, kV, doc, pm, an, cdv, ct, osl, rfl, l, c⟩⟩
  ⟨f, _, ⟨mk, a, i, kc⟩, PySem.W.mg_of X G aC, F, C8.Fun.binds F rfl b⟩
theorem na_nil {C : Addr} : ∀ f ∈ ([] : List Str), NoAttr K C f := fun _ z => by cases z
theorem na_cons {C : Addr} {g : Str} {fs : List Str} (a : PySem.W.findIn K (.ref C) g = some none) (t : ∀ f ∈ fs, NoAttr K C f) : ∀ f ∈ g :: fs, NoAttr K C f := fun f z => by
  rcases List.mem_cons.mp z with e | e
  · rw [e]; exact a
  · exact t f e
theorem ck_mk {C : Addr} {fs : List Str} (pg : PySem.W.plainGet K C Str.empty = true) (hd : PySem.W.hasDictIn K C = true) (po : PySem.W.plainOver K C = true) (sa : PySem.W.findIn K (.ref C) "__setattr__" = some (some (.builtin "object.__setattr__"))) (t : ∀ f ∈ fs, NoAttr K C f) : Ck K C fs := ⟨⟨pg, hd, po, sa⟩, t⟩
theorem int_mk {x : Str} {n : Int} {t : Tok} (X : K.In h) (G : h.Ns mainGlobals mg) (a : PySem.W.nsIn K mainGlobals x = some (some (.int n t))) : ∃ u, mg x = some u ∧ RelV (.int n) u := ⟨_, PySem.W.mg_of X G a, ⟨_, rfl⟩⟩
theorem ref_mk {x : Str} {p : Addr} (X : K.In h) (G : h.Ns mainGlobals mg) (a : PySem.W.nsIn K mainGlobals x = some (some (.ref p))) : ∃ u, mg x = some u ∧ RelV (.ref p) u := ⟨_, PySem.W.mg_of X G a, rfl⟩
theorem tup_mk {p : Addr} {o : Obj} {xs : List V} {its : Array Value} {n : Nat} (l : K.lookup p = some o) (c : o.cls = .type "tuple") (d : o.data = .seq its n) (z : its.size ≤ sizeLine) (v : Vals xs its.toList) : ∀ H, SqT K H p xs := fun _ => .inr ⟨o, its, n, l, c, d, z, v⟩
theorem kint_mk {p : Addr} {es : Array DictEntry} {n : Nat} {kvs : List (Int × Int)} (l : K.lookup p = some ⟨.type "dict", none, .dict es n, #[]⟩) (e : Ents es.toList kvs) : KInt K p kvs := ⟨es, n, l, e⟩
end
end U

set_option Elab.async false
set_option linter.all false
set_option maxRecDepth 100000
set_option maxHeartbeats 2000000
/-! lists told alike or not; a list's item counted up; is None -/
namespace U
open PySem PySem.Spec PyProof.Rows L2
/-! ### two lists of ints -/
def dI (l : List Nat) : List PyData := l.map fun (n : Nat) => PyData.int (n : Int)
theorem dI_all {K : PySem.W.Frag} {H : Hp} : ∀ l : List Nat, DpAll K H (l.map iv) (dI l)
  | [] => .nil
  | n :: l => .cons (.int _) (dI_all l)
theorem dI_lay : ∀ l : List Nat, PyData.canLayAll0 (dI l) = true
  | [] => by simp [dI, PyData.canLayAll0]
  | n :: l => by
    have h := dI_lay l
    show PyData.canLayAll0 (PyData.int (n : Int) :: dI l) = true
    simp [PyData.canLayAll0, PyData.canLay0, h]
theorem dI_depth : ∀ l : List Nat, PyData.depthAll (dI l) ≤ 1
  | [] => by simp [dI, PyData.depthAll]
  | n :: l => by
    have h := dI_depth l
    show PyData.depthAll (PyData.int (n : Int) :: dI l) ≤ 1
    simp [PyData.depthAll, PyData.depth]
    omega
theorem dI_shaped (l : List Nat) : SeqAt.shaped (.list (dI l)) = true := by
  have h1 := dI_depth l
  have h2 : PyData.depth (.list (dI l)) ≤ 64 := by
    simp only [PyData.depth]
    omega
  show (PyData.canLay0 (.list (dI l)) && decide (PyData.depth (.list (dI l)) ≤ 64)) = true
  rw [Bool.and_eq_true]
  exact ⟨by simp only [PyData.canLay0]; exact dI_lay l, decide_eq_true h2⟩
theorem dI_eqv : ∀ l m : List Nat, PyData.eqvAll (dI l) (dI m) = decide (l = m)
  | [], [] => by simp [dI, PyData.eqvAll]
  | [], b :: m => by
    show PyData.eqvAll [] (PyData.int (b : Int) :: dI m) = _
    simp [PyData.eqvAll]
  | a :: l, [] => by
    show PyData.eqvAll (PyData.int (a : Int) :: dI l) [] = _
    simp [PyData.eqvAll]
  | a :: l, b :: m => by
    have h := dI_eqv l m
    show PyData.eqvAll (PyData.int (a : Int) :: dI l) (PyData.int (b : Int) :: dI m) = _
    have e : PyData.eqvAll (PyData.int (a : Int) :: dI l) (PyData.int (b : Int) :: dI m) = (((a : Int) == (b : Int)) && PyData.eqvAll (dI l) (dI m)) := by simp only [PyData.eqvAll, PyData.eqv]
    rw [e, h]
    by_cases c : a = b
    · subst c
      rw [beq_self_eq_true, Bool.true_and]
      by_cases d : l = m
      · rw [d, decide_eq_true rfl, decide_eq_true rfl]
      · rw [decide_eq_false d, decide_eq_false fun z => d (List.cons.inj z).2]
    · have q : ((a : Int) == (b : Int)) = false := beq_eq_false_iff_ne.mpr (by omega)
      rw [q, Bool.false_and, decide_eq_false fun z => c (List.cons.inj z).1]
section
variable {K : PySem.W.Frag} {σ : L2.St} {H : Hp} {ta tb tc te : TE} {x v w : V} {D : Ends}
theorem is_eqLs {p q : Addr} {xs ys : List Nat} (ha : Is ta σ H (.ref p)) (hb : Is tb σ H (.ref q)) (h : H p = some (.lst (xs.map iv))) (h' : H q = some (.lst (ys.map iv))) : Is (tOp (rEqD K) ta tb) σ H (.bl (decide (xs = ys))) :=
  fun Q k => ha _ (hb _ ⟨.list (dI xs), .list (dI ys), .lst (SqL.of h) (dI_all xs), .lst (SqL.of h') (dI_all ys), dI_shaped xs, dI_shaped ys, by
    have e : PyData.eqv (.list (dI xs)) (.list (dI ys)) = decide (xs = ys) := by
      rw [PyData.eqv]
      exact dI_eqv xs ys
    rw [e]
    exact k⟩)
/-- is None -/
def rIsN : R2 := fun x y H Q => y = .non ∧ Q (.bl (decide (x = .non))) H
theorem op_isN' {X : Cx} : OpR X (compareOp .Is) rIsN := op_isN
theorem is_isN (ha : Is ta σ H x) : Is (tOp rIsN ta (tC .non)) σ H (.bl (decide (x = .non))) := fun Q k => ha _ ⟨rfl, k⟩
end
/-! ### xs[i] += n -/
theorem get_list {X : Cx} : PGet X (rIxL X.K) := by
  intro pins s σ H x y v u Q I rx ry h
  obtain ⟨p, xs, i, z, rfl, rfl, hq, he, q⟩ := h
  cases rx
  obtain ⟨t, rfl⟩ := ry
  obtain ⟨its, r, pl, hz⟩ := I.list hq
  obtain ⟨j, h1, h2, h3, h4, h5⟩ := atI_get he
  obtain ⟨w, ew, rw'⟩ := r.get h2
  have hl := r.length
  have hn := line63
  have fin : EP X pins σ Q w s := ⟨z, H, I, rw', q⟩
  by_cases h0 : 0 ≤ i
  · have hj : i.toNat = j := by
      rw [seqIndex_of h0 h5] at h1
      exact Option.some.inj h1
    exact wpAny_getItem_list pl.isList h0 (by omega) (by rw [hj]; simpa using ew) fin
  · have hj : (i + (its.toArray.size : Int)).toNat = j := by
      rw [seqIndex_neg (by omega) h4] at h1
      rw [List.size_toArray, ← hl]
      exact Option.some.inj h1
    exact wpAny_getItem_list_neg pl.isList (by omega) (by rw [List.size_toArray] <;> omega) (by omega) (by rw [hj]; simpa using ew) fin
section
variable {K : PySem.W.Frag} {σ : L2.St} {H : Hp} {ta tb te : TE} {D : Ends}
theorem s_augL {p : Addr} {xs : List V} {i : Nat} {m n : Int} (ho : Is ta σ H (.ref p)) (hi : Is tb σ H (iv i)) (h : H p = some (.lst xs)) (e : xs[i]? = some (.int m)) (hv : Is te σ H (.int n)) (k : D.nx σ (upd H p (.lst (xs.set i (.int (m + n)))))) :
    tAugS ta tb te (rIxL K) (ipI fun i j => i + j) rSetL D σ H :=
  ho _ (hi _ ⟨p, xs, _, _, rfl, rfl, SqL.of h, atI_nat e, hv _ ⟨_, _, rfl, rfl, p, xs, _, i, rfl, rfl, h, ixN_nat (List.getElem?_eq_some_iff.mp e).1, k⟩⟩)
end
/-- `f()` -/
theorem pe_c0 {X : Cx} {k j : Nat} {x : Str} {sp : Sp} {dvs : List V} {p pos : Pos} (c : C8.Cal X.prog X.w X.K X.mg X.base k x sp dvs) (hr : Room j X.A) (hk : k ≤ j) (hg : Gl X x)
    (hdb : (x == ("__debug__" : Str)) = false := by decide) : PE X (.Call (.Name x p) [] [] pos) (tCall sp dvs C8.E0 tNil) := by
  obtain ⟨f, fd, ps, ds, F, hm, kp, b, d⟩ := c.ex
  exact pe_call0 F (hr.mono hk) hg hm kp b d C8.pass0 hdb
end U

set_option Elab.async false
namespace Gm
open Ge13

/-! ### lists of rows, all as long -/
theorem flat_get {α : Type} {n : Nat} : ∀ {rows : List (List α)} (_ : ∀ r ∈ rows, r.length = n) (k j : Nat), j < n → (rows.flatten)[k * n + j]? = (rows[k]?).bind fun r => r[j]?
  | [], _, k, j, _ => by simp
  | r :: rs, h, 0, j, hj => by
    have hr : r.length = n := h r (List.mem_cons_self ..)
    rw [List.flatten_cons, List.getElem?_append_left (by omega)]
    simp
  | r :: rs, h, k + 1, j, hj => by
    have hr : r.length = n := h r (List.mem_cons_self ..)
    have e : (k + 1) * n + j = r.length + (k * n + j) := by rw [Nat.add_mul, hr]; omega
    rw [List.flatten_cons, e, List.getElem?_append_right (by omega), Nat.add_sub_cancel_left, flat_get (fun q hq => h q (List.mem_cons_of_mem _ hq)) k j hj]
    simp
theorem flat_len {α : Type} {n : Nat} : ∀ {rows : List (List α)} (_ : ∀ r ∈ rows, r.length = n), rows.flatten.length = rows.length * n
  | [], _ => by simp
  | r :: rs, h => by
    have hr : r.length = n := h r (List.mem_cons_self ..)
    rw [List.flatten_cons, List.length_append, flat_len fun q hq => h q (List.mem_cons_of_mem _ hq), hr, List.length_cons, Nat.add_mul]
    omega

/-- the cave's rows -/
def rowOf (c : Cave) (y : Nat) : List Nat := (List.range c.w).map fun x => at_ c x y
def rowsOf (c : Cave) : List (List Nat) := (List.range c.h).map (rowOf c)
/-- a row with its rim -/
def wallRow (n : Nat) : List Nat := List.replicate (n + 2) 2
def rimRow (r : List Nat) : List Nat := 2 :: (r ++ [2])
/-- the program's list of places -/
def rimL (n : Nat) (rows : List (List Nat)) : List Nat := wallRow n ++ (rows.map rimRow).flatten ++ wallRow n
def rim (c : Cave) : List Nat := rimL c.w (rowsOf c)
def pos (c : Cave) (x y : Nat) : Nat := (y + 1) * (c.w + 2) + (x + 1)

theorem rowOf_len (c : Cave) (y : Nat) : (rowOf c y).length = c.w := by simp [rowOf]
theorem rimRow_len {r : List Nat} {n : Nat} (h : r.length = n) : (rimRow r).length = n + 2 := by simp [rimRow, h]
theorem rim_all (c : Cave) : rim c = ((wallRow c.w :: (rowsOf c).map rimRow) ++ [wallRow c.w]).flatten := by
  simp [rim, rimL]
theorem rim_rows (c : Cave) : ∀ r ∈ (wallRow c.w :: (rowsOf c).map rimRow) ++ [wallRow c.w], r.length = c.w + 2 := by
  intro r hr
  simp only [rowsOf, List.map_map, List.cons_append, List.mem_cons, List.mem_append, List.mem_map, List.mem_range, Function.comp, List.not_mem_nil, or_false] at hr
  rcases hr with rfl | ⟨y, _, rfl⟩ | rfl
  · simp [wallRow]
  · exact rimRow_len (rowOf_len c y)
  · simp [wallRow]
theorem rim_len (c : Cave) : (rim c).length = (c.h + 2) * (c.w + 2) := by
  rw [rim_all, flat_len (rim_rows c)]
  simp [rowsOf]
/-- what is at a place of the list -/
def rimAt (c : Cave) (X Y : Nat) : Nat := if X = 0 ∨ Y = 0 then 2 else at_ c (X - 1) (Y - 1)
theorem at_out {c : Cave} {x y : Nat} (h : ¬ (x < c.w ∧ y < c.h)) : at_ c x y = 2 := by unfold at_; rw [if_neg h]
theorem at_in {c : Cave} {x y : Nat} (h : at_ c x y ≠ 2) : x < c.w ∧ y < c.h := by
  by_cases q : x < c.w ∧ y < c.h
  · exact q
  · exact absurd (at_out q) h
theorem wall_get {n X : Nat} (h : X < n + 2) : (wallRow n)[X]? = some 2 := by
  simp [wallRow, List.getElem?_replicate, h]
theorem rimRow_get (c : Cave) (y X : Nat) (hX : X < c.w + 2) (hy : y < c.h) : (rimRow (rowOf c y))[X]? = some (rimAt c X (y + 1)) := by
  cases X with
  | zero => simp [rimRow, rimAt]
  | succ x =>
    have e : rimAt c (x + 1) (y + 1) = at_ c x y := by simp [rimAt]
    rw [e]
    show (rowOf c y ++ [2])[x]? = _
    by_cases hx : x < c.w
    · rw [List.getElem?_append_left (by rw [rowOf_len]; exact hx)]
      simp [rowOf, hx]
    · have hx' : x = c.w := by omega
      subst hx'
      rw [List.getElem?_append_right (by rw [rowOf_len]; exact Nat.le_refl _), rowOf_len, Nat.sub_self, at_out (by omega)]
      rfl
theorem rim_get (c : Cave) {X Y : Nat} (hX : X < c.w + 2) (hY : Y < c.h + 2) : (rim c)[Y * (c.w + 2) + X]? = some (rimAt c X Y) := by
  rw [rim_all, flat_get (rim_rows c) Y X hX]
  cases Y with
  | zero => simp [rimAt, wall_get hX]
  | succ y =>
    by_cases hy : y < c.h
    · have e : ((wallRow c.w :: (rowsOf c).map rimRow) ++ [wallRow c.w])[y + 1]? = some (rimRow (rowOf c y)) := by
        rw [List.cons_append, List.getElem?_cons_succ, List.getElem?_append_left (by simp [rowsOf, hy])]
        simp [rowsOf, hy]
      rw [e]
      exact rimRow_get c y X hX hy
    · have hy' : y = c.h := by omega
      subst hy'
      have e : ((wallRow c.w :: (rowsOf c).map rimRow) ++ [wallRow c.w])[c.h + 1]? = some (wallRow c.w) := by
        rw [List.cons_append, List.getElem?_cons_succ, List.getElem?_append_right (by simp [rowsOf])]
        simp [rowsOf]
      rw [e]
      show (wallRow c.w)[X]? = _
      rw [wall_get hX]
      unfold rimAt
      by_cases q : X = 0 ∨ c.h + 1 = 0
      · rw [if_pos q]
      · rw [if_neg q, at_out (by omega)]
theorem rim_pos (c : Cave) {x y : Nat} (hx : x ≤ c.w) (hy : y ≤ c.h) : (rim c)[pos c x y]? = some (at_ c x y) := by
  have h := rim_get c (X := x + 1) (Y := y + 1) (by omega) (by omega)
  rw [show pos c x y = (y + 1) * (c.w + 2) + (x + 1) from rfl, h]
  simp [rimAt]
theorem pos_lt (c : Cave) {x y : Nat} (hx : x ≤ c.w) (hy : y ≤ c.h) : pos c x y < (c.h + 2) * (c.w + 2) := by
  have h : (y + 1 + 1) * (c.w + 2) ≤ (c.h + 2) * (c.w + 2) := Nat.mul_le_mul_right _ (by omega)
  rw [Nat.add_mul] at h
  unfold pos
  omega
/-- the places beside, as the program reckons them -/
def step (c : Cave) (d : Nat) : Int := if d = 0 then 1 else if d = 1 then ((c.w : Int) + 2) else if d = 2 then -1 else -((c.w : Int) + 2)
def posTo (c : Cave) (x y d : Nat) : Nat := if d = 0 then pos c x y + 1 else if d = 1 then pos c x y + (c.w + 2) else if d = 2 then pos c x y - 1 else pos c x y - (c.w + 2)
theorem posTo_int (c : Cave) (x y d : Nat) : ((pos c x y : Nat) : Int) + step c d = (posTo c x y d : Int) := by
  have h1 : (c.w + 2) ≤ (y + 1) * (c.w + 2) := Nat.le_mul_of_pos_left _ (by omega)
  have h2 : (c.w + 2) + 1 ≤ pos c x y := by unfold pos; omega
  unfold step posTo
  by_cases h : d = 0
  · simp [h]
  · by_cases h' : d = 1
    · simp [h']
    · by_cases h'' : d = 2
      · simp [h'']; omega
      · simp only [if_neg h, if_neg h', if_neg h'']; omega
theorem posTo_in {c : Cave} {x y d : Nat} (_hx : x < c.w) (_hy : y < c.h) (h : (beside c x y d).1 < c.w ∧ (beside c x y d).2 < c.h) : posTo c x y d = pos c (beside c x y d).1 (beside c x y d).2 := by
  unfold beside at h ⊢
  unfold posTo pos
  by_cases h0 : d = 0
  · simp only [if_pos h0]; omega
  · by_cases h1 : d = 1
    · simp only [if_neg h0, if_pos h1]
      rw [Nat.add_mul (y + 1) 1]
      omega
    · by_cases h2 : d = 2
      · simp only [if_neg h0, if_neg h1, if_pos h2] at h ⊢
        by_cases hx0 : x = 0
        · simp only [if_pos hx0] at h; omega
        · simp only [if_neg hx0]; omega
      · simp only [if_neg h0, if_neg h1, if_neg h2] at h ⊢
        by_cases hy0 : y = 0
        · simp only [if_pos hy0] at h; omega
        · simp only [if_neg hy0]
          have e : y + 1 = (y - 1 + 1) + 1 := by omega
          rw [e, Nat.add_mul (y - 1 + 1) 1]
          omega
theorem rim_beside (c : Cave) {x y d : Nat} (hx : x < c.w) (hy : y < c.h) : (rim c)[posTo c x y d]? = some (cellTo c x y d) := by
  by_cases h : (beside c x y d).1 < c.w ∧ (beside c x y d).2 < c.h
  · rw [posTo_in hx hy h, rim_pos c (by omega) (by omega)]
    rfl
  · have e : cellTo c x y d = 2 := at_out h
    rw [e]
    unfold beside at h
    unfold posTo
    by_cases h0 : d = 0
    · simp only [if_pos h0] at h ⊢
      have hx' : x + 1 = c.w := by omega
      have q := rim_pos c (x := x + 1) (y := y) (by omega) (by omega)
      rw [at_out (by omega)] at q
      exact q
    · by_cases h1 : d = 1
      · simp only [if_neg h0, if_pos h1] at h ⊢
        have q := rim_pos c (x := x) (y := y + 1) (by omega) (by omega)
        rw [at_out (by omega)] at q
        have e2 : pos c x y + (c.w + 2) = pos c x (y + 1) := by unfold pos; rw [Nat.add_mul (y + 1) 1]; omega
        rw [e2]
        exact q
      · by_cases h2 : d = 2
        · simp only [if_neg h0, if_neg h1, if_pos h2] at h ⊢
          have hx0 : x = 0 := by
            apply Classical.byContradiction
            intro z
            simp only [if_neg z] at h
            omega
          subst hx0
          have q := rim_get c (X := 0) (Y := y + 1) (by omega) (by omega)
          have e2 : pos c 0 y - 1 = (y + 1) * (c.w + 2) + 0 := by unfold pos; omega
          rw [e2, q]
          simp [rimAt]
        · simp only [if_neg h0, if_neg h1, if_neg h2] at h ⊢
          have hy0 : y = 0 := by
            apply Classical.byContradiction
            intro z
            simp only [if_neg z] at h
            omega
          subst hy0
          have q := rim_get c (X := x + 1) (Y := 0) (by omega) (by omega)
          have e2 : pos c x 0 - (c.w + 2) = 0 * (c.w + 2) + (x + 1) := by unfold pos; omega
          rw [e2, q]
          simp [rimAt]
/-! ### putting -/
theorem at_put {c : Cave} (hl : c.cells.length = c.w * c.h) {x y x' y' v : Nat} (hx : x < c.w) (hy : y < c.h) : at_ (put c x y v) x' y' = if x' = x ∧ y' = y then v else at_ c x' y' := by
  show (if x' < c.w ∧ y' < c.h then (c.cells.set (y * c.w + x) v).getD (y' * c.w + x') 2 else 2) = _
  have hlen : y * c.w + x < c.cells.length := by
    rw [hl]
    have : (y + 1) * c.w ≤ c.h * c.w := Nat.mul_le_mul_right _ (by omega)
    rw [Nat.add_mul] at this
    rw [Nat.mul_comm c.w c.h]
    omega
  by_cases h : x' < c.w ∧ y' < c.h
  · rw [if_pos h]
    by_cases e : x' = x ∧ y' = y
    · obtain ⟨rfl, rfl⟩ := e
      rw [if_pos ⟨rfl, rfl⟩]
      simp [List.getD_eq_getElem?_getD, List.getElem?_set, hlen]
    · rw [if_neg e]
      have ne : y * c.w + x ≠ y' * c.w + x' := by
        intro q
        apply e
        have hw : 0 < c.w := by omega
        have e1 : (y * c.w + x) % c.w = x := by rw [Nat.add_comm, Nat.add_mul_mod_self_right, Nat.mod_eq_of_lt hx]
        have e2 : (y' * c.w + x') % c.w = x' := by rw [Nat.add_comm, Nat.add_mul_mod_self_right, Nat.mod_eq_of_lt h.1]
        have e3 : x' = x := by rw [← e1, ← e2, q]
        refine ⟨e3, ?_⟩
        subst e3
        have e4 : y * c.w = y' * c.w := by omega
        exact (Nat.eq_of_mul_eq_mul_right hw e4).symm
      have e3 : at_ c x' y' = c.cells.getD (y' * c.w + x') 2 := by unfold at_; rw [if_pos h]
      rw [e3]
      simp [List.getD_eq_getElem?_getD, List.getElem?_set, ne]
  · rw [if_neg h, if_neg (fun e : x' = x ∧ y' = y => h ⟨by rw [e.1]; exact hx, by rw [e.2]; exact hy⟩), at_out h]
theorem split_at {n i : Nat} (m : Nat) (h : i < m * n) : i % n < n ∧ i / n < m ∧ i = i / n * n + i % n := by
  have hn : 0 < n := by
    apply Nat.pos_of_ne_zero
    intro z
    subst z
    simp at h
  refine ⟨Nat.mod_lt _ hn, Nat.div_lt_of_lt_mul (by rw [Nat.mul_comm]; exact h), ?_⟩
  have := Nat.div_add_mod i n
  rw [Nat.mul_comm] at this
  exact this.symm
theorem pos_inj {c : Cave} {x y x' y' : Nat} (hx : x < c.w + 1) (hx' : x' < c.w + 1) (h : pos c x y = pos c x' y') : x = x' ∧ y = y' := by
  unfold pos at h
  have e1 : ((y + 1) * (c.w + 2) + (x + 1)) % (c.w + 2) = x + 1 := by rw [Nat.add_comm, Nat.add_mul_mod_self_right, Nat.mod_eq_of_lt (by omega)]
  have e2 : ((y' + 1) * (c.w + 2) + (x' + 1)) % (c.w + 2) = x' + 1 := by rw [Nat.add_comm, Nat.add_mul_mod_self_right, Nat.mod_eq_of_lt (by omega)]
  have e3 : x + 1 = x' + 1 := by rw [← e1, ← e2, h]
  have e4 : (y + 1) * (c.w + 2) = (y' + 1) * (c.w + 2) := by omega
  have e5 := Nat.eq_of_mul_eq_mul_right (by omega : 0 < c.w + 2) e4
  omega
theorem rim_put {c : Cave} (hl : c.cells.length = c.w * c.h) {x y : Nat} (v : Nat) (hx : x < c.w) (hy : y < c.h) : rim (put c x y v) = (rim c).set (pos c x y) v := by
  apply List.ext_getElem?
  intro i
  have hw : (put c x y v).w = c.w := rfl
  have hh : (put c x y v).h = c.h := rfl
  by_cases hi : i < (c.h + 2) * (c.w + 2)
  · obtain ⟨h1, h2, h3⟩ := split_at (c.h + 2) hi
    have g1 := rim_get (put c x y v) (X := i % (c.w + 2)) (Y := i / (c.w + 2)) h1 h2
    rw [hw, ← h3] at g1
    have g2 := rim_get c h1 h2
    rw [← h3] at g2
    rw [g1, List.getElem?_set]
    by_cases e : pos c x y = i
    · rw [if_pos e, if_pos (by rw [rim_len]; exact e ▸ hi)]
      have e1 : i % (c.w + 2) = x + 1 := by
        rw [← e]
        unfold pos
        rw [Nat.add_comm, Nat.add_mul_mod_self_right, Nat.mod_eq_of_lt (by omega)]
      have e2 : i / (c.w + 2) = y + 1 := by
        have : (y + 1) * (c.w + 2) = i / (c.w + 2) * (c.w + 2) := by
          have : pos c x y = (y + 1) * (c.w + 2) + (x + 1) := rfl
          omega
        exact (Nat.eq_of_mul_eq_mul_right (by omega) this).symm
      rw [e1, e2]
      simp only [rimAt, Nat.add_sub_cancel]
      rw [if_neg (by omega), at_put hl hx hy, if_pos ⟨rfl, rfl⟩]
    · rw [if_neg e, g2]
      unfold rimAt
      by_cases z : i % (c.w + 2) = 0 ∨ i / (c.w + 2) = 0
      · rw [if_pos z, if_pos z]
      · rw [if_neg z, if_neg z, at_put hl hx hy, if_neg]
        rintro ⟨q1, q2⟩
        apply e
        have z1 : i % (c.w + 2) = x + 1 := by
          generalize i % (c.w + 2) = a at z q1
          generalize i / (c.w + 2) = b at z q2
          omega
        have z2 : i / (c.w + 2) = y + 1 := by
          generalize i % (c.w + 2) = a at z q1
          generalize i / (c.w + 2) = b at z q2
          omega
        rw [z1, z2] at h3
        exact h3.symm
  · rw [List.getElem?_eq_none (by rw [rim_len, hw, hh]; omega), List.getElem?_eq_none (by rw [List.length_set, rim_len]; omega)]
end Gm

set_option Elab.async false
set_option linter.all false
namespace Gm
open Ge13
/-! ### caves that are as they should be -/
structure Wf (c : Cave) : Prop where
  len : c.cells.length = c.w * c.h
  w1 : 1 ≤ c.w
  w20 : c.w ≤ 20
  h1 : 1 ≤ c.h
  h14 : c.h ≤ 14
  lt : ∀ v ∈ c.cells, v ≤ 12
theorem Wf.put {c : Cave} (h : Wf c) (x y : Nat) {v : Nat} (hv : v ≤ 12) : Wf (put c x y v) :=
  ⟨(List.length_set).trans h.len, h.w1, h.w20, h.h1, h.h14, fun u hu => by
    rcases List.mem_or_eq_of_mem_set hu with q | q
    · exact h.lt u q
    · rw [q]; exact hv⟩
theorem Wf.at {c : Cave} (h : Wf c) (x y : Nat) : at_ c x y ≤ 12 := by
  unfold at_
  by_cases q : x < c.w ∧ y < c.h
  · rw [if_pos q, List.getD_eq_getElem?_getD]
    cases e : c.cells[y * c.w + x]? with
    | none => decide
    | some v => exact h.lt v (List.mem_of_getElem? e)
  · rw [if_neg q]; decide
theorem Wf.same {c c' : Cave} (h : Wf c) (e1 : c'.w = c.w) (e2 : c'.h = c.h) (e3 : c'.cells = c.cells) : Wf c' :=
  ⟨by rw [e1, e2, e3]; exact h.len, by rw [e1]; exact h.w1, by rw [e1]; exact h.w20, by rw [e2]; exact h.h1, by rw [e2]; exact h.h14, by rw [e3]; exact h.lt⟩
theorem rim_same {c c' : Cave} (e1 : c'.w = c.w) (e2 : c'.h = c.h) (e3 : c'.cells = c.cells) : rim c' = rim c := by
  have e : ∀ y, rowOf c' y = rowOf c y := fun y => by
    unfold rowOf
    rw [e1]
    apply List.map_congr_left
    intro x _
    unfold at_
    rw [e1, e2, e3]
  unfold rim rowsOf
  rw [e1, e2]
  congr 1
  exact List.map_congr_left fun y _ => e y
theorem Wf.size {c : Cave} (h : Wf c) : (c.h + 2) * (c.w + 2) ≤ 352 := Nat.mul_le_mul (by have := h.h14; omega : c.h + 2 ≤ 16) (by have := h.w20; omega : c.w + 2 ≤ 22)
/-! ### counting -/
theorem rows_cells {c : Cave} (h : c.cells.length = c.w * c.h) : (rowsOf c).flatten = c.cells := by
  have hr : ∀ r ∈ rowsOf c, r.length = c.w := fun r hr => by
    obtain ⟨y, _, rfl⟩ := List.mem_map.mp hr
    exact rowOf_len c y
  apply List.ext_getElem?
  intro i
  by_cases hi : i < c.h * c.w
  · obtain ⟨h1, h2, h3⟩ := split_at c.h hi
    have g := flat_get hr (i / c.w) (i % c.w) h1
    rw [← h3] at g
    rw [g]
    have e : (rowsOf c)[i / c.w]? = some (rowOf c (i / c.w)) := by simp [rowsOf, h2]
    rw [e]
    show (rowOf c (i / c.w))[i % c.w]? = _
    have e2 : (rowOf c (i / c.w))[i % c.w]? = some (at_ c (i % c.w) (i / c.w)) := by simp [rowOf, h1]
    rw [e2]
    unfold at_
    rw [if_pos ⟨h1, h2⟩, ← h3, List.getD_eq_getElem?_getD]
    have hl : i < c.cells.length := by rw [h, Nat.mul_comm]; exact hi
    rw [List.getElem?_eq_getElem hl]
    rfl
  · rw [List.getElem?_eq_none (by rw [flat_len hr]; simp [rowsOf]; omega), List.getElem?_eq_none (by rw [h, Nat.mul_comm]; omega)]
theorem count_rims (v : Nat) (hv : v ≠ 2) : ∀ rows : List (List Nat), ((rows.map rimRow).flatten).count v = rows.flatten.count v
  | [] => rfl
  | r :: rs => by
    have h2 : (2 == v) = false := beq_eq_false_iff_ne.mpr (Ne.symm hv)
    rw [List.map_cons, List.flatten_cons, List.flatten_cons, List.count_append, List.count_append, count_rims v hv rs]
    simp [rimRow, List.count_cons, List.count_append, h2]
theorem rim_count {c : Cave} (h : c.cells.length = c.w * c.h) {v : Nat} (hv : v ≠ 2) : (rim c).count v = c.cells.count v := by
  have h0 : (wallRow c.w).count v = 0 := by
    rw [wallRow, List.count_replicate, if_neg]
    simp
    exact Ne.symm hv
  unfold rim rimL
  rw [List.count_append, List.count_append, count_rims v hv, rows_cells h, h0]
  omega
theorem gems_count (c : Cave) : gems c = c.cells.count 5 + c.cells.count 6 := by
  unfold gems
  generalize c.cells = l
  induction l with
  | nil => rfl
  | cons a l ih =>
    rw [List.filter_cons, List.count_cons, List.count_cons]
    by_cases h5 : a = 5
    · subst h5
      simp [ih]
      omega
    · by_cases h6 : a = 6
      · subst h6
        simp [ih]
        omega
      · simp [h5, h6, ih]
theorem rim_gems {c : Cave} (h : c.cells.length = c.w * c.h) : (rim c).count 5 + (rim c).count 6 = gems c := by
  rw [rim_count h (by decide), rim_count h (by decide), gems_count]
theorem count_cast (l : List Nat) (v : Nat) : (l.map fun (n : Nat) => (n : Int)).count (v : Int) = l.count v := by
  induction l with
  | nil => rfl
  | cons a l ih =>
    rw [List.map_cons, List.count_cons, List.count_cons, ih]
    by_cases h : a = v
    · subst h
      simp
    · have : ¬ ((a : Int) = (v : Int)) := by omega
      simp [h, this]
/-! ### a tick, place by place -/
def turnAt (key : Nat) (s : Cave × Marks) (x y : Nat) : Cave × Marks :=
  if s.1.over ≠ 0 ∨ s.2.contains (x, y) = true then s else
    if at_ s.1 x y = 7 then playerTurn s.1 s.2 x y key else if 3 ≤ at_ s.1 x y ∧ at_ s.1 x y ≤ 6 then stoneTurn s.1 s.2 x y (at_ s.1 x y) else if 8 ≤ at_ s.1 x y ∧ at_ s.1 x y ≤ 11 then monsterTurn s.1 s.2 x y (at_ s.1 x y) else s
def first (c : Cave) : Cave × Marks := ({ c with ticks := c.ticks + 1 }, [])
def upTo (c : Cave) (key n : Nat) : Cave × Marks := (List.range n).foldl (fun s i => turnAt key s (i % c.w) (i / c.w)) (first c)
theorem walk_eq {c : Cave} {w : Nat} {key : Nat} : ∀ (l : List Nat) (s : Cave × Marks), s.1.w = w → (∀ s' : Cave × Marks, s'.1.w = w → ∀ x y, (turnAt key s' x y).1.w = w) →
    l.foldl (fun (a : Cave × Marks) i =>
      let x := i % c.w
      let y := i / c.w
      let v := at_ a.1 x y
      if a.1.over ≠ 0 ∨ a.2.contains (x, y) = true then a else
        if v = 7 then playerTurn a.1 a.2 x y key else if 3 ≤ v ∧ v ≤ 6 then stoneTurn a.1 a.2 x y v else if 8 ≤ v ∧ v ≤ 11 then monsterTurn a.1 a.2 x y v else a) s = l.foldl (fun s i => turnAt key s (i % c.w) (i / c.w)) s
  | [], _, _, _ => rfl
  | i :: r, s, h, k => walk_eq r _ (k s h _ _) k
theorem upTo_succ (c : Cave) (key n : Nat) : upTo c key (n + 1) = turnAt key (upTo c key n) (n % c.w) (n / c.w) := by
  unfold upTo
  rw [List.range_succ, List.foldl_append]
  rfl
theorem tick_upTo (c : Cave) (key : Nat) : tick c key = if c.over ≠ 0 then c else (upTo c key (c.w * c.h)).1 := rfl
theorem upTo_over {c : Cave} {key n : Nat} (h : (upTo c key n).1.over ≠ 0) : ∀ k, upTo c key (n + k) = upTo c key n
  | 0 => rfl
  | k + 1 => by
    rw [← Nat.add_assoc, upTo_succ, upTo_over h k]
    unfold turnAt
    rw [if_pos (Or.inl h)]
/-- what stays in a turn -/
structure Kp (s s' : Cave × Marks) : Prop where
  w : s'.1.w = s.1.w
  h : s'.1.h = s.1.h
  ticks : s'.1.ticks = s.1.ticks
  wf : Wf s.1 → Wf s'.1
  ml : s'.2.length ≤ s.2.length + 2
theorem Kp.refl (s : Cave × Marks) : Kp s s := ⟨rfl, rfl, rfl, id, by omega⟩
theorem kp_goTo {c : Cave} {m : Marks} {x y : Nat} {q : Nat × Nat} {v : Nat} (hv : v ≤ 12) {p o : Nat} : Kp (c, m) ({ goTo c x y q v with points := p, over := o }, q :: m) :=
  ⟨rfl, rfl, rfl, fun h => ((h.put x y (by decide : 0 ≤ 12)).put q.1 q.2 hv).same rfl rfl rfl, by simp⟩
theorem playerTurn_kp (c : Cave) (m : Marks) (x y key : Nat) : Kp (c, m) (playerTurn c m x y key) := by
  unfold playerTurn
  dsimp only
  repeat' split
  all_goals first
    | exact Kp.refl _
    | exact ⟨rfl, rfl, rfl, fun h => (h.put _ _ (by decide)).put _ _ (by decide), by simp⟩
    | exact ⟨rfl, rfl, rfl, fun h => ((h.put _ _ (by decide)).put _ _ (by decide)).put _ _ (by decide), by simp⟩
    | exact ⟨rfl, rfl, rfl, fun h => ((h.put _ _ (by decide)).put _ _ (by decide)).same rfl rfl rfl, by simp⟩
    | exact ⟨rfl, rfl, rfl, fun h => (h.put _ _ (by decide)).same rfl rfl rfl, by simp⟩
theorem stoneTurn_kp (c : Cave) (m : Marks) (x y v : Nat) : Kp (c, m) (stoneTurn c m x y v) := by
  have hs : (if v = 3 ∨ v = 4 then 3 else 5) ≤ 5 := by split <;> decide
  unfold stoneTurn
  dsimp only
  generalize (if v = 3 ∨ v = 4 then 3 else 5) = k at hs
  repeat' split
  all_goals first
    | exact Kp.refl _
    | exact ⟨rfl, rfl, rfl, fun h => (h.put _ _ (by decide)).put _ _ (by omega), by simp⟩
    | exact ⟨rfl, rfl, rfl, fun h => ((h.put _ _ (by decide)).put _ _ (by omega)).same rfl rfl rfl, by simp⟩
    | exact ⟨rfl, rfl, rfl, fun h => ((h.put _ _ (by omega)).put _ _ (by decide)).same rfl rfl rfl, by simp⟩
    | exact ⟨rfl, rfl, rfl, fun h => h.put _ _ (by omega), by simp⟩
theorem monsterTurn_kp (c : Cave) (m : Marks) (x y : Nat) {v : Nat} (hv : v ≤ 11) : Kp (c, m) (monsterTurn c m x y v) := by
  unfold monsterTurn
  dsimp only
  repeat' split
  all_goals first
    | exact ⟨rfl, rfl, rfl, fun h => h.same rfl rfl rfl, by simp⟩
    | exact ⟨rfl, rfl, rfl, fun h => (h.put _ _ (by decide)).put _ _ (by omega), by simp⟩
    | exact ⟨rfl, rfl, rfl, fun h => h.put _ _ (by omega), by simp⟩
theorem turnAt_kp (key : Nat) (s : Cave × Marks) (x y : Nat) : Kp s (turnAt key s x y) := by
  unfold turnAt
  by_cases h0 : s.1.over ≠ 0 ∨ s.2.contains (x, y) = true
  · rw [if_pos h0]; exact Kp.refl s
  · rw [if_neg h0]
    by_cases h1 : at_ s.1 x y = 7
    · rw [if_pos h1]; exact playerTurn_kp s.1 s.2 x y key
    · rw [if_neg h1]
      by_cases h2 : 3 ≤ at_ s.1 x y ∧ at_ s.1 x y ≤ 6
      · rw [if_pos h2]; exact stoneTurn_kp s.1 s.2 x y _
      · rw [if_neg h2]
        by_cases h3 : 8 ≤ at_ s.1 x y ∧ at_ s.1 x y ≤ 11
        · rw [if_pos h3]; exact monsterTurn_kp s.1 s.2 x y h3.2
        · rw [if_neg h3]; exact Kp.refl s
theorem upTo_kp (c : Cave) (key : Nat) : ∀ n, (upTo c key n).1.w = c.w ∧ (upTo c key n).1.h = c.h ∧ (upTo c key n).1.ticks = c.ticks + 1 ∧ (Wf c → Wf (upTo c key n).1) ∧ (upTo c key n).2.length ≤ 2 * n
  | 0 => ⟨rfl, rfl, rfl, fun h => h.same rfl rfl rfl, by simp [upTo, first]⟩
  | n + 1 => by
    obtain ⟨h1, h2, h3, h4, h5⟩ := upTo_kp c key n
    have k := turnAt_kp key (upTo c key n) (n % c.w) (n / c.w)
    rw [upTo_succ]
    exact ⟨k.w.trans h1, k.h.trans h2, k.ticks.trans h3, fun h => k.wf (h4 h), by have := k.ml; omega⟩
theorem tick_wf {c : Cave} {key : Nat} (h : Wf c) : Wf (tick c key) := by
  rw [tick_upTo]
  split
  · exact h
  · exact (upTo_kp c key _).2.2.2.1 h
theorem tick_ticks {c : Cave} {key : Nat} (h : c.over = 0) : (tick c key).ticks = c.ticks + 1 := by
  rw [tick_upTo, if_neg (by omega)]
  exact (upTo_kp c key _).2.2.1
theorem tick_wh (c : Cave) (key : Nat) : (tick c key).w = c.w ∧ (tick c key).h = c.h := by
  rw [tick_upTo]
  split
  · exact ⟨rfl, rfl⟩
  · exact ⟨(upTo_kp c key _).1, (upTo_kp c key _).2.1⟩
end Gm

set_option Elab.async false
set_option linter.all false
namespace Gm
open Ge13
theorem to_in {c : Cave} {x y d : Nat} (hx : x < c.w) (hy : y < c.h) (h : @Ne Nat (cellTo c x y d) 2) : (beside c x y d).1 < c.w ∧ (beside c x y d).2 < c.h ∧ posTo c x y d = pos c (beside c x y d).1 (beside c x y d).2 := by
  have q := at_in (c := c) h
  exact ⟨q.1, q.2, posTo_in hx hy q⟩
theorem playerTurn_eq {c : Cave} {m : Marks} {x y key : Nat} (hk : key ≠ 0) : playerTurn c m x y key =
    (if cellTo c x y (key - 1) = 0 ∨ cellTo c x y (key - 1) = 1 then (goTo c x y (beside c x y (key - 1)) 7, beside c x y (key - 1) :: m) else
     if cellTo c x y (key - 1) = 5 ∨ cellTo c x y (key - 1) = 6 then ({ goTo c x y (beside c x y (key - 1)) 7 with points := c.points + 10 }, beside c x y (key - 1) :: m) else
     if cellTo c x y (key - 1) = 3 ∧ (key - 1 = 0 ∨ key - 1 = 2) then
       (if cellTo c (beside c x y (key - 1)).1 (beside c x y (key - 1)).2 (key - 1) = 0 then
          (goTo (put c (beside c (beside c x y (key - 1)).1 (beside c x y (key - 1)).2 (key - 1)).1 (beside c (beside c x y (key - 1)).1 (beside c x y (key - 1)).2 (key - 1)).2 3) x y (beside c x y (key - 1)) 7,
           beside c (beside c x y (key - 1)).1 (beside c x y (key - 1)).2 (key - 1) :: beside c x y (key - 1) :: m) else (c, m)) else
     if cellTo c x y (key - 1) = 12 ∧ gems c = 0 then ({ put c x y 0 with over := 1, points := c.points + 100 }, m) else (c, m)) := by
  unfold playerTurn
  rw [if_neg hk]
  rfl
def pushed (c : Cave) (m : Marks) (x y d : Nat) : Cave × Marks :=
  if cellTo c (beside c x y d).1 (beside c x y d).2 d = 0 then
    (goTo (put c (beside c (beside c x y d).1 (beside c x y d).2 d).1 (beside c (beside c x y d).1 (beside c x y d).2 d).2 3) x y (beside c x y d) 7,
     beside c (beside c x y d).1 (beside c x y d).2 d :: beside c x y d :: m) else (c, m)
theorem set_over {α : Type} (l : List α) (i j k : Nat) (u v w x : α) : ((((l.set i u).set j v).set k w).set i x) = (((l.set j v).set k w).set i x) := by
  apply List.ext_getElem?
  intro n
  simp only [List.getElem?_set, List.length_set]
  by_cases h : i = n
  · simp [h]
  · simp [h]
theorem push_cells (c : Cave) (q r p : Nat × Nat) : goTo (goTo c q.1 q.2 r 3) p.1 p.2 q 7 = goTo (put c r.1 r.2 3) p.1 p.2 q 7 := by
  show Cave.mk c.w c.h ((((c.cells.set (q.2 * c.w + q.1) 0).set (r.2 * c.w + r.1) 3).set (p.2 * c.w + p.1) 0).set (q.2 * c.w + q.1) 7) c.over c.points c.ticks = Cave.mk c.w c.h (((c.cells.set (r.2 * c.w + r.1) 3).set (p.2 * c.w + p.1) 0).set (q.2 * c.w + q.1) 7) c.over c.points c.ticks
  rw [set_over]
/-- what a loose thing is when it lies -/
def stillOf (v : Nat) : Nat := if v = 3 ∨ v = 4 then 3 else 5
def rolled (c : Cave) (m : Marks) (x y v : Nat) : Cave × Marks :=
  if cellTo c x y 2 = 0 ∧ cellTo c (beside c x y 2).1 (beside c x y 2).2 1 = 0 then (goTo c x y (beside c x y 2) (stillOf v + 1), beside c x y 2 :: m) else
  if cellTo c x y 0 = 0 ∧ cellTo c (x + 1) y 1 = 0 then (goTo c x y (x + 1, y) (stillOf v + 1), (x + 1, y) :: m) else (put c x y (stillOf v), m)
theorem stoneTurn_eq {c : Cave} {m : Marks} {x y v : Nat} : stoneTurn c m x y v =
    (if cellTo c x y 1 = 0 then (goTo c x y (beside c x y 1) (stillOf v + 1), beside c x y 1 :: m) else
     if v = stillOf v + 1 ∧ cellTo c x y 1 = 7 then ({ goTo c x y (beside c x y 1) (stillOf v) with over := 2 }, beside c x y 1 :: m) else
     if v = stillOf v + 1 ∧ 8 ≤ cellTo c x y 1 ∧ cellTo c x y 1 ≤ 11 then ({ put (put c x y (stillOf v)) (beside c x y 1).1 (beside c x y 1).2 5 with points := c.points + 20 }, beside c x y 1 :: m) else
     if cellTo c x y 1 = 3 ∨ cellTo c x y 1 = 5 then rolled c m x y v else (put c x y (stillOf v), m)) := rfl
theorem monsterTurn_eq {c : Cave} {m : Marks} {x y v : Nat} : monsterTurn c m x y v =
    (if ((List.range 4).any fun e => cellTo c x y e == 7) = true then ({ c with over := 2 }, m) else
     if cellTo c x y ((v - 8 + 3) % 4) = 0 then (goTo c x y (beside c x y ((v - 8 + 3) % 4)) (8 + (v - 8 + 3) % 4), beside c x y ((v - 8 + 3) % 4) :: m) else
     if cellTo c x y (v - 8) = 0 then (goTo c x y (beside c x y (v - 8)) v, beside c x y (v - 8) :: m) else (put c x y (8 + (v - 8 + 1) % 4), m)) := rfl
end Gm

set_option Elab.async false
set_option linter.all false
namespace Gm
open Ge13
theorem rim_row {c : Cave} {y : Nat} (hy : y < c.h) : ((rim c).drop (pos c 0 y)).take c.w = rowOf c y := by
  apply List.ext_getElem?
  intro i
  rw [List.getElem?_take, List.getElem?_drop]
  by_cases hi : i < c.w
  · rw [if_pos hi, show pos c 0 y + i = pos c i y by unfold pos; omega, rim_pos c (by omega) (by omega)]
    simp [rowOf, hi]
  · rw [if_neg hi, List.getElem?_eq_none (by rw [rowOf_len]; omega)]
def sgn (v : Nat) : Nat := signs.getD v 32
def wrTo (c : Cave) (n : Nat) : List Nat := (List.range n).flatMap fun y => (rowOf c y).map sgn ++ [10]
theorem wrTo_succ (c : Cave) (n : Nat) : wrTo c (n + 1) = wrTo c n ++ ((rowOf c n).map sgn ++ [10]) := by
  unfold wrTo
  rw [List.range_succ, List.flatMap_append, List.flatMap_singleton]
theorem wrTo_all (c : Cave) : wrTo c c.h = write c := by
  unfold wrTo write rowOf sgn
  congr 1
  funext y
  rw [List.map_map]
  rfl
theorem wrTo_len (c : Cave) : ∀ n, (wrTo c n).length = n * (c.w + 1)
  | 0 => by simp [wrTo]
  | n + 1 => by
    rw [wrTo_succ, List.length_append, wrTo_len c n, Nat.add_mul]
    simp [rowOf]
theorem write_len (c : Cave) : (write c).length = c.h * (c.w + 1) := by rw [← wrTo_all, wrTo_len]
theorem write_small {c : Cave} (h : Wf c) : (write c).length ≤ 294 := by
  rw [write_len]
  exact Nat.le_trans (Nat.mul_le_mul h.h14 (by have := h.w20; omega : c.w + 1 ≤ 21)) (by decide)
/-! ### games -/
/-- a key pressed, if it is not over -/
def pressOn (g : Game) (key : Nat) : Game := if g.now.over ≠ 0 then g else { g with keys := g.keys ++ [key], now := tick g.now key }
theorem tickOn_eq (g : Game) : tickOn g = pressOn g g.held := rfl
theorem press_eq (g : Game) (k : Nat) : tickOn { g with held := k } = { pressOn g k with held := k } := by
  unfold tickOn pressOn
  dsimp only
  split <;> rfl
/-- n presses of what is held -/
def pressN : Nat → Game → Game
  | 0, g => g
  | n + 1, g => pressN n (pressOn g g.held)
theorem pressN_eq : ∀ n g, ticksOn n g = pressN n g
  | 0, _ => rfl
  | n + 1, g => by
    show ticksOn n (tickOn g) = pressN n (pressOn g g.held)
    rw [tickOn_eq, pressN_eq n]
theorem pressN_succ : ∀ n g, pressN (n + 1) g = pressOn (pressN n g) (pressN n g).held
  | 0, _ => rfl
  | n + 1, g => by
    show pressN (n + 1) (pressOn g g.held) = pressOn (pressN n (pressOn g g.held)) (pressN n (pressOn g g.held)).held
    exact pressN_succ n (pressOn g g.held)
theorem pressOn_held (g : Game) (k : Nat) : (pressOn g k).held = g.held ∧ (pressOn g k).step = g.step ∧ (pressOn g k).rest = g.rest ∧ (pressOn g k).first = g.first := by
  unfold pressOn
  split <;> exact ⟨rfl, rfl, rfl, rfl⟩
/-- what is always so of a game -/
structure GInv (g : Game) : Prop where
  wf1 : Wf g.first
  wf : Wf g.now
  fo : g.first.over = 0 ∧ g.first.points = 0 ∧ g.first.ticks = 0
  now : g.now = g.keys.foldl tick g.first
  tk : g.now.ticks = g.keys.length
  ks : ∀ k ∈ g.keys, k ≤ 4
  kl : g.keys.length ≤ 400
  ongo : ∀ n, n < g.keys.length → ((g.keys.take n).foldl tick g.first).over = 0
  st : 1 ≤ g.step ∧ g.step ≤ 100
  rs : g.rest < g.step
  hd : g.held ≤ 4
theorem pressOn_inv {g : Game} (h : GInv g) {k : Nat} (hk : k ≤ 4) (hl : g.now.over = 0 → g.keys.length < 400) : GInv (pressOn g k) := by
  unfold pressOn
  by_cases ho : g.now.over = 0
  · rw [if_neg (by omega)]
    exact {
      wf1 := h.wf1
      wf := tick_wf h.wf
      fo := h.fo
      now := by
        show tick g.now k = (g.keys ++ [k]).foldl tick g.first
        rw [List.foldl_append, ← h.now]
        rfl
      tk := by
        show (tick g.now k).ticks = (g.keys ++ [k]).length
        rw [tick_ticks ho, h.tk]
        simp
      ks := fun j hj => by
        rcases List.mem_append.mp hj with q | q
        · exact h.ks j q
        · rw [List.mem_singleton.mp q]; exact hk
      kl := by
        have := hl ho
        show (g.keys ++ [k]).length ≤ 400
        simp
        omega
      ongo := fun n hn => by
        have hn : n < (g.keys ++ [k]).length := hn
        rw [List.length_append, List.length_singleton] at hn
        show ((((g.keys ++ [k]).take n).foldl tick g.first)).over = 0
        rw [List.take_append_of_le_length (by omega)]
        by_cases e : n < g.keys.length
        · exact h.ongo n e
        · rw [List.take_of_length_le (by omega), ← h.now]
          exact ho
      st := h.st
      rs := h.rs
      hd := h.hd }
  · rw [if_pos ho]
    exact h
theorem game0_inv {c : Cave} (h : Wf c) (ho : c.over = 0 ∧ c.points = 0 ∧ c.ticks = 0) {s : Nat} (hs : 1 ≤ s ∧ s ≤ 100) : GInv { game0 c with step := s } where
  wf1 := h
  wf := h
  fo := ho
  now := rfl
  tk := ho.2.2
  ks := fun k hk => by simp [game0] at hk
  kl := by simp [game0]
  ongo := fun n hn => by simp [game0] at hn
  st := hs
  rs := by show 0 < s; omega
  hd := Nat.zero_le 4
end Gm

set_option Elab.async false
set_option linter.all false
namespace Gm
open Ge13
/-! ### the kept places -/
theorem slot_save (g : House) (n m : Nat) : slot { g with slots := (g.slots.filter fun x => x.1 != n) ++ [(n, g.game)] } m = if m = n then some g.game else slot g m := by
  unfold slot
  dsimp only
  rw [List.find?_append]
  by_cases e : m = n
  · subst e
    rw [if_pos rfl]
    have h : (g.slots.filter fun x => x.1 != m).find? (fun x => x.1 == m) = none := by
      rw [List.find?_eq_none]
      intro x hx
      have := (List.mem_filter.mp hx).2
      simpa using this
    rw [h]
    simp
  · rw [if_neg e]
    have h2 : ([(n, g.game)] : List (Nat × Game)).find? (fun x => x.1 == m) = none := by
      have : ¬ n = m := fun z => e z.symm
      simp [this]
    rw [h2, Option.or_none]
    congr 1
    generalize g.slots = l
    induction l with
    | nil => rfl
    | cons p l ih =>
      rw [List.filter_cons]
      by_cases hp : p.1 = n
      · have h1 : (p.1 != n) = false := by simp [hp]
        rw [if_neg (by rw [h1]; decide), ih, List.find?_cons]
        have h3 : (p.1 == m) = false := by
          rw [beq_eq_false_iff_ne, hp]
          exact fun z => e z.symm
        rw [h3]
      · have h1 : (p.1 != n) = true := by simp [hp]
        rw [if_pos h1, List.find?_cons, List.find?_cons, ih]
/-! ### the session's standing truths -/
structure SInv (g : House) : Prop where
  gm : GInv g.game
  sl : ∀ n x, slot g n = some x → GInv x
theorem init_inv : SInv Ge13.init where
  gm := by
    have w : Wf cave0 := ⟨rfl, by decide, by decide, by decide, by decide, by decide⟩
    exact game0_inv w ⟨rfl, rfl, rfl⟩ (s := 10) (by decide)
  sl := fun n x h => by simp [slot, Ge13.init] at h
theorem GInv.rest {g : Game} (h : GInv g) {r s d : Nat} (hs : 1 ≤ s ∧ s ≤ 100) (hr : r < s) (hd : d ≤ 4) : GInv { g with rest := r, step := s, held := d } :=
  ⟨h.wf1, h.wf, h.fo, h.now, h.tk, h.ks, h.kl, h.ongo, hs, hr, hd⟩
theorem pressN_keep : ∀ n g, (pressN n g).held = g.held ∧ (pressN n g).step = g.step ∧ (pressN n g).rest = g.rest ∧ (pressN n g).first = g.first
  | 0, _ => ⟨rfl, rfl, rfl, rfl⟩
  | n + 1, g => by
    have h := pressN_keep n (pressOn g g.held)
    have h2 := pressOn_held g g.held
    exact ⟨h.1.trans h2.1, h.2.1.trans h2.2.1, h.2.2.1.trans h2.2.2.1, h.2.2.2.trans h2.2.2.2⟩
theorem pressOn_len (g : Game) (k : Nat) : (pressOn g k).keys.length ≤ g.keys.length + 1 := by
  unfold pressOn
  split
  · omega
  · simp
theorem pressOn_over {g : Game} {k : Nat} (h : g.now.over ≠ 0) : pressOn g k = g := by unfold pressOn; rw [if_pos h]
theorem pressN_over : ∀ n {g : Game}, g.now.over ≠ 0 → pressN n g = g
  | 0, _, _ => rfl
  | n + 1, g, h => by
    show pressN n (pressOn g g.held) = g
    rw [pressOn_over h]
    exact pressN_over n h
theorem pressN_inv : ∀ n {g : Game}, GInv g → (g.now.over = 0 → g.keys.length + n ≤ 400) → GInv (pressN n g)
  | 0, _, h, _ => h
  | n + 1, g, h, hl => by
    show GInv (pressN n (pressOn g g.held))
    by_cases ho : g.now.over = 0
    · have := hl ho
      exact pressN_inv n (pressOn_inv h h.hd fun _ => by omega) fun _ => by
        have := pressOn_len g g.held
        omega
    · rw [pressOn_over ho]
      exact pressN_inv n h fun z => absurd z ho
end Gm

set_option Elab.async false
set_option linter.all false
namespace Gm
open Ge13
theorem pressOn_rest (g : Game) (k r : Nat) : pressOn { g with rest := r } k = { pressOn g k with rest := r } := by
  unfold pressOn
  dsimp only
  split <;> rfl
theorem pressN_rest : ∀ n (g : Game) (r : Nat), pressN n { g with rest := r } = { pressN n g with rest := r }
  | 0, _, _ => rfl
  | n + 1, g, r => by
    show pressN n (pressOn { g with rest := r } g.held) = { pressN n (pressOn g g.held) with rest := r }
    rw [pressOn_rest, pressN_rest n]
theorem frame_eq (g : Game) (dt : Nat) : Ge13.frame g dt = { pressN ((g.rest + dt) / g.step) g with rest := (g.rest + dt) % g.step } := by
  unfold Ge13.frame
  rw [pressN_eq, pressN_rest]
theorem pressN_len : ∀ n (g : Game), (pressN n g).keys.length ≤ g.keys.length + n
  | 0, _ => Nat.le_refl _
  | n + 1, g => by
    have h := pressN_len n (pressOn g g.held)
    have h2 := pressOn_len g g.held
    show (pressN n (pressOn g g.held)).keys.length ≤ _
    omega
theorem frame_inv {g : Game} (h : GInv g) {dt : Nat} (hl : ¬ (400 < g.keys.length + (g.rest + dt) / g.step ∧ g.now.over = 0)) : GInv (Ge13.frame g dt) := by
  rw [frame_eq]
  have h1 := pressN_inv ((g.rest + dt) / g.step) h fun ho => by
    apply Classical.byContradiction
    intro z
    exact hl ⟨by omega, ho⟩
  have k := pressN_keep ((g.rest + dt) / g.step) g
  exact h1.rest (r := (g.rest + dt) % g.step) (by rw [k.2.1]; exact h.st) (by rw [k.2.1]; exact Nat.mod_lt _ (by have := h.st; omega)) (by rw [k.1]; exact h.hd)
theorem told_eq {g : Game} (h : GInv g) : told g.now = [g.now.over, g.now.points, g.keys.length, gems g.now] := by
  unfold told
  rw [h.tk]
theorem fdiv_nat (a b : Nat) : ((a : Nat) : Int).fdiv ((b : Nat) : Int) = ((a / b : Nat) : Int) := by
  rw [Int.fdiv_eq_ediv_of_nonneg _ (by omega)]
  rfl
theorem fmod_nat (a b : Nat) : ((a : Nat) : Int).fmod ((b : Nat) : Int) = ((a % b : Nat) : Int) := by
  rw [Int.fmod_eq_emod_of_nonneg _ (by omega)]
  rfl
end Gm

set_option Elab.async false
set_option linter.all false
namespace Gm
open Ge13
/-! ### a text's rows -/
def stepP (s : List (List Nat) × List Nat) (b : Nat) : List (List Nat) × List Nat := if b = 10 then (s.1 ++ [s.2], []) else (s.1, s.2 ++ [b])
def endP (s : List (List Nat) × List Nat) : List (List Nat) := if 0 < s.2.length then s.1 ++ [s.2] else s.1
def rowsP (w : List Nat) : List (List Nat) := endP (w.foldl stepP ([], []))
def rawS (w : List Nat) : List (List Nat) := w.foldr (fun c (a : List Bytes) => if c = 10 then [] :: a else match a with
    | [] => [[c]]
    | x :: l => (c :: x) :: l) [[]]
def trim (r : List (List Nat)) : List (List Nat) := if r.getLast? = some [] then r.dropLast else r
theorem rawS_cons10 (w : List Nat) : rawS (10 :: w) = [] :: rawS w := rfl
theorem rawS_ne (w : List Nat) : ∃ x l, rawS w = x :: l := by
  cases w with
  | nil => exact ⟨[], [], rfl⟩
  | cons b w =>
    show ∃ x l, (if b = 10 then [] :: rawS w else match rawS w with | [] => [[b]] | x :: l => (b :: x) :: l) = x :: l
    by_cases h : b = 10
    · rw [if_pos h]
      exact ⟨_, _, rfl⟩
    · rw [if_neg h]
      cases rawS w with
      | nil => exact ⟨_, _, rfl⟩
      | cons x l => exact ⟨_, _, rfl⟩
theorem rawS_cons {b : Nat} {w x : List Nat} {l : List (List Nat)} (h : b ≠ 10) (e : rawS w = x :: l) : rawS (b :: w) = (b :: x) :: l := by
  show (if b = 10 then [] :: rawS w else match rawS w with | [] => [[b]] | x :: l => (b :: x) :: l) = _
  rw [if_neg h, e]
theorem trim_cons (r x : List Nat) (l : List (List Nat)) : trim (r :: x :: l) = r :: trim (x :: l) := by
  unfold trim
  rw [List.getLast?_cons_cons]
  split <;> rfl
theorem split_from : ∀ (w : List Nat) (rows : List (List Nat)) (row x : List Nat) (l : List (List Nat)), rawS w = x :: l → endP (w.foldl stepP (rows, row)) = rows ++ trim ((row ++ x) :: l)
  | [], rows, row, x, l, e => by
    cases e
    rw [List.append_nil]
    show (if 0 < row.length then rows ++ [row] else rows) = rows ++ trim [row]
    cases row with
    | nil => simp [trim]
    | cons a r => simp [trim]
  | b :: w, rows, row, x, l, e => by
    obtain ⟨y, m, e2⟩ := rawS_ne w
    rw [List.foldl_cons]
    by_cases h : b = 10
    · subst h
      rw [rawS_cons10, e2] at e
      cases e
      show endP (w.foldl stepP (rows ++ [row], [])) = _
      rw [split_from w _ _ _ _ e2, List.append_nil, trim_cons, List.append_assoc]
      rfl
    · rw [rawS_cons h e2] at e
      cases e
      have : stepP (rows, row) b = (rows, row ++ [b]) := if_neg h
      rw [this, split_from w _ _ _ _ e2, List.append_assoc]
      rfl
theorem rows_eq (w : List Nat) : rowsP w = trim (rawS w) := by
  obtain ⟨x, l, e⟩ := rawS_ne w
  unfold rowsP
  rw [split_from w [] [] x l e, List.nil_append, e]
  rfl
/-- the rows together are the text without its ends -/
theorem raw_flat : ∀ w : List Nat, (rawS w).flatten = w.filter (fun b => b != 10)
  | [] => rfl
  | b :: w => by
    have ih := raw_flat w
    by_cases h : b = 10
    · subst h
      rw [rawS_cons10, List.flatten_cons, ih]
      rfl
    · obtain ⟨x, l, e⟩ := rawS_ne w
      have hb : (b != 10) = true := by simp [h]
      rw [rawS_cons h e, List.filter_cons, if_pos hb, ← ih, e]
      rfl
theorem trim_flat (r : List (List Nat)) : (trim r).flatten = r.flatten := by
  unfold trim
  split
  · rename_i h
    have e : r = r.dropLast ++ [[]] := by
      have hne : r ≠ [] := fun z => by rw [z] at h; cases h
      have z := List.dropLast_concat_getLast hne
      rw [List.getLast?_eq_some_getLast hne] at h
      rw [← Option.some.inj h]
      exact z.symm
    rw [e]
    simp
  · rfl
theorem rows_flat (w : List Nat) : (rowsP w).flatten = w.filter (fun b => b != 10) := by rw [rows_eq, trim_flat, raw_flat]
/-! ### the fault -/
def idx (b : Nat) : Nat := (signs.findIdx? fun s => s == b).getD 0
def strange (w : List Nat) : Bool := w.any fun b => b != 10 && !signs.contains b
def uneven (rows : List (List Nat)) : Bool := rows.any fun r => r.length != (rows.headD []).length
def wrong (rows : List (List Nat)) : Bool := (decide (rows.length = 0) || decide (14 < rows.length)) || (decide ((rows.headD []).length = 0) || decide (20 < (rows.headD []).length))
def faultOf (w : List Nat) : Nat := if strange w = true then 1 else if uneven (rowsP w) = true then 2 else if wrong (rowsP w) = true then 3 else if w.count 64 ≠ 1 then 4 else 0
def caveOf (w : List Nat) : Cave := ⟨((rowsP w).headD []).length, (rowsP w).length, (rowsP w).flatten.map idx, 0, 0, 0⟩
theorem strange_eq (w : List Nat) : ((rowsP w).all fun x => x.all fun c => signs.contains c) = !strange w := by
  rw [← List.all_flatten, rows_flat]
  unfold strange
  induction w with
  | nil => rfl
  | cons b w ih =>
    rw [List.filter_cons, List.any_cons]
    by_cases h : b = 10
    · subst h
      simpa using ih
    · have hb : (b != 10) = true := by simp [h]
      rw [if_pos hb, List.all_cons, ih, hb]
      cases signs.contains b <;> simp
theorem uneven_eq (rows : List (List Nat)) : (rows.all fun x => x.length == (rows.headD []).length) = !uneven rows := by
  unfold uneven
  generalize (rows.headD []).length = n
  induction rows with
  | nil => rfl
  | cons r l ih =>
    rw [List.all_cons, List.any_cons, ih]
    show ((r.length == n) && !_) = !((!(r.length == n)) || _)
    cases (r.length == n) <;> simp
theorem wrong_eq (rows : List (List Nat)) : ((rows.headD []).length = 0 ∨ 20 < (rows.headD []).length ∨ rows = [] ∨ 14 < rows.length) ↔ wrong rows = true := by
  unfold wrong
  have e : rows = [] ↔ rows.length = 0 := List.length_eq_zero_iff.symm
  rw [e]
  simp only [Bool.or_eq_true, decide_eq_true_eq]
  omega
theorem idx_seven {b : Nat} (h : signs.contains b = true) : (idx b == 7) = (b == 64) := by
  simp only [signs, List.contains_cons, List.contains_nil, Bool.or_eq_true, beq_iff_eq, Bool.or_false] at h
  rcases h with rfl | rfl | rfl | rfl | rfl | rfl | rfl | rfl | rfl | rfl | rfl | rfl | rfl <;> decide
theorem idx_le {b : Nat} (h : signs.contains b = true) : idx b ≤ 12 := by
  simp only [signs, List.contains_cons, List.contains_nil, Bool.or_eq_true, beq_iff_eq, Bool.or_false] at h
  rcases h with rfl | rfl | rfl | rfl | rfl | rfl | rfl | rfl | rfl | rfl | rfl | rfl | rfl <;> decide
theorem players : ∀ {w : List Nat}, strange w = false → (((w.filter fun b => b != 10).map idx).filter fun v => v == 7).length = w.count 64
  | [], _ => rfl
  | b :: w, h => by
    unfold strange at h
    rw [List.any_cons, Bool.or_eq_false_iff] at h
    have ih := players (w := w) h.2
    by_cases e : b = 10
    · subst e
      rw [List.filter_cons, if_neg (by decide), ih, List.count_cons]
      simp
    · have hb : (b != 10) = true := by simp [e]
      have hc : signs.contains b = true := by
        have := h.1
        rw [hb, Bool.true_and] at this
        simpa using this
      rw [List.filter_cons, if_pos hb, List.map_cons, List.filter_cons, idx_seven hc, List.count_cons]
      by_cases q : b = 64
      · subst q
        simp [ih]
      · have q2 : (b == 64) = false := by simp [q]
        rw [q2]
        simp only [Bool.false_eq_true, if_false, Nat.add_zero]
        exact ih
theorem read_fault (w : List Nat) : Ge13.read w = if faultOf w = 0 then .ok (caveOf w) else .error (faultOf w) := by
  have e0 : Ge13.read w = (if ((trim (rawS w)).all fun x => x.all fun c => signs.contains c) = false then .error 1 else if ((trim (rawS w)).all fun x => x.length == ((trim (rawS w)).headD []).length) = false then .error 2 else
      if ((trim (rawS w)).headD []).length = 0 ∨ 20 < ((trim (rawS w)).headD []).length ∨ (trim (rawS w)) = [] ∨ 14 < (trim (rawS w)).length then .error 3 else
      if (((trim (rawS w)).flatten.map idx).filter fun v => v == 7).length ≠ 1 then .error 4 else .ok ⟨((trim (rawS w)).headD []).length, (trim (rawS w)).length, (trim (rawS w)).flatten.map idx, 0, 0, 0⟩) := rfl
  rw [← rows_eq] at e0
  rw [e0, strange_eq, uneven_eq]
  unfold faultOf
  by_cases h1 : strange w = true
  · rw [if_pos h1, h1]
    rfl
  · have h1' : strange w = false := by simpa using h1
    rw [if_neg h1, h1', if_neg (by decide)]
    by_cases h2 : uneven (rowsP w) = true
    · rw [if_pos h2, h2]
      rfl
    · have h2' : uneven (rowsP w) = false := by simpa using h2
      rw [if_neg h2, h2', if_neg (by decide)]
      by_cases h3 : wrong (rowsP w) = true
      · rw [if_pos h3, if_pos ((wrong_eq _).mpr h3)]
        rfl
      · rw [if_neg h3, if_neg (fun z => h3 ((wrong_eq _).mp z)), rows_flat, players h1']
        by_cases h4 : w.count 64 ≠ 1
        · rw [if_pos h4, if_pos h4]
          rfl
        · rw [if_neg h4, if_neg h4, if_pos rfl]
          unfold caveOf
          rw [rows_flat]
/-! ### the cave that is read -/
structure Good (w : List Nat) : Prop where
  kn : ∀ r ∈ rowsP w, ∀ b ∈ r, signs.contains b = true
  ev : ∀ r ∈ rowsP w, r.length = ((rowsP w).headD []).length
  n1 : 1 ≤ ((rowsP w).headD []).length
  n20 : ((rowsP w).headD []).length ≤ 20
  h1 : 1 ≤ (rowsP w).length
  h14 : (rowsP w).length ≤ 14
theorem good_of {w : List Nat} (h : faultOf w = 0) : Good w := by
  unfold faultOf at h
  by_cases h1 : strange w = true
  · rw [if_pos h1] at h; cases h
  · rw [if_neg h1] at h
    by_cases h2 : uneven (rowsP w) = true
    · rw [if_pos h2] at h; cases h
    · rw [if_neg h2] at h
      by_cases h3 : wrong (rowsP w) = true
      · rw [if_pos h3] at h; cases h
      · have e1 := strange_eq w
        have e2 := uneven_eq (rowsP w)
        rw [show strange w = false by simpa using h1] at e1
        rw [show uneven (rowsP w) = false by simpa using h2] at e2
        have e3 : ¬ (((rowsP w).headD []).length = 0 ∨ 20 < ((rowsP w).headD []).length ∨ rowsP w = [] ∨ 14 < (rowsP w).length) := fun z => h3 ((wrong_eq _).mp z)
        have e4 : rowsP w = [] ↔ (rowsP w).length = 0 := List.length_eq_zero_iff.symm
        rw [e4] at e3
        refine ⟨fun r hr b hb => ?_, fun r hr => ?_, by omega, by omega, by omega, by omega⟩
        · have := List.all_eq_true.mp e1 r hr
          exact List.all_eq_true.mp this b hb
        · have := List.all_eq_true.mp e2 r hr
          simpa using this
theorem caveOf_wf {w : List Nat} (h : faultOf w = 0) : Wf (caveOf w) := by
  have g := good_of h
  refine ⟨?_, g.n1, g.n20, g.h1, g.h14, fun v hv => ?_⟩
  · show ((rowsP w).flatten.map idx).length = ((rowsP w).headD []).length * (rowsP w).length
    rw [List.length_map, flat_len g.ev, Nat.mul_comm]
  · obtain ⟨b, hb, rfl⟩ := List.mem_map.mp hv
    obtain ⟨r, hr, hb⟩ := List.mem_flatten.mp hb
    exact idx_le (g.kn r hr b hb)
theorem caveOf_rows {w : List Nat} (h : faultOf w = 0) : rowsOf (caveOf w) = (rowsP w).map (fun r => r.map idx) := by
  have g := good_of h
  have hw := caveOf_wf h
  apply List.ext_getElem?
  intro y
  by_cases hy : y < (rowsP w).length
  · have e1 : (rowsOf (caveOf w))[y]? = some (rowOf (caveOf w) y) := by
      have : y < (caveOf w).h := hy
      simp [rowsOf, this]
    rw [e1, List.getElem?_map, List.getElem?_eq_getElem hy]
    show some _ = some _
    congr 1
    have hr : (rowsP w)[y].length = ((rowsP w).headD []).length := g.ev _ (List.getElem_mem hy)
    apply List.ext_getElem?
    intro x
    by_cases hx : x < ((rowsP w).headD []).length
    · have e2 : (rowOf (caveOf w) y)[x]? = some (at_ (caveOf w) x y) := by
        have : x < (caveOf w).w := hx
        simp [rowOf, this]
      rw [e2, List.getElem?_map]
      have e3 : (rowsP w).flatten[y * ((rowsP w).headD []).length + x]? = (rowsP w)[y][x]? := by
        rw [flat_get g.ev y x hx, List.getElem?_eq_getElem hy]
        rfl
      have hx2 : x < (rowsP w)[y].length := by rw [hr]; exact hx
      rw [List.getElem?_eq_getElem hx2] at e3 ⊢
      unfold at_
      rw [if_pos ⟨hx, hy⟩, List.getD_eq_getElem?_getD]
      show some ((((rowsP w).flatten.map idx)[y * ((rowsP w).headD []).length + x]?).getD 2) = _
      rw [List.getElem?_map, e3]
      rfl
    · rw [List.getElem?_eq_none (by rw [rowOf_len]; exact Nat.le_of_not_lt hx), List.getElem?_eq_none (by rw [List.length_map, hr]; omega)]
  · rw [List.getElem?_eq_none (by simp [rowsOf, caveOf]; omega), List.getElem?_eq_none (by rw [List.length_map]; omega)]
theorem caveOf_rim {w : List Nat} (h : faultOf w = 0) : rim (caveOf w) = rimL ((rowsP w).headD []).length ((rowsP w).map (fun r => r.map idx)) := by
  unfold rim
  rw [caveOf_rows h]
  rfl
end Gm

set_option Elab.async false
set_option linter.all false
namespace Gm
open Ge13
/-! ### played so far -/
theorem fold_wf : ∀ (l : List Nat) {c : Cave}, Wf c → Wf (l.foldl tick c)
  | [], _, h => h
  | k :: l, c, h => fold_wf l (tick_wf (key := k) h)
theorem fold_ticks {g : Game} (h : GInv g) : ∀ n, n ≤ g.keys.length → ((g.keys.take n).foldl tick g.first).ticks = n
  | 0, _ => by
    rw [List.take_zero]
    exact h.fo.2.2
  | n + 1, hn => by
    have hl : n < g.keys.length := by omega
    have e : g.keys.take (n + 1) = g.keys.take n ++ [g.keys[n]] := by
      rw [List.take_succ, List.getElem?_eq_getElem hl]
      rfl
    rw [e, List.foldl_append]
    show (tick ((g.keys.take n).foldl tick g.first) g.keys[n]).ticks = n + 1
    rw [tick_ticks (h.ongo n hl), fold_ticks h n (by omega)]
theorem playTo_wf {g : Game} (h : GInv g) (k : Nat) : Wf (playTo g k) := fold_wf _ h.wf1
theorem back_inv {g : Game} (h : GInv g) {k : Nat} (hk : k ≤ g.keys.length) : GInv { g with keys := g.keys.take k, now := playTo g k, rest := 0 } where
  wf1 := h.wf1
  wf := playTo_wf h k
  fo := h.fo
  now := rfl
  tk := by
    show (playTo g k).ticks = (g.keys.take k).length
    rw [List.length_take, Nat.min_eq_left hk]
    exact fold_ticks h k hk
  ks := fun x hx => h.ks x (List.mem_of_mem_take hx)
  kl := by
    show (g.keys.take k).length ≤ 400
    rw [List.length_take]
    have := h.kl
    omega
  ongo := fun n hn => by
    have hn : n < (g.keys.take k).length := hn
    rw [List.length_take] at hn
    show (((g.keys.take k).take n).foldl tick g.first).over = 0
    rw [List.take_take, Nat.min_eq_left (by omega)]
    exact h.ongo n (by omega)
  st := h.st
  rs := by show 0 < g.step; have := h.st; omega
  hd := h.hd
/-! ### keys in a row -/
def pressL (l : List Nat) (g : Game) : Game := l.foldl pressOn g
theorem pressOn_hold (g : Game) (k d : Nat) : pressOn { g with held := d } k = { pressOn g k with held := d } := by
  unfold pressOn
  dsimp only
  split <;> rfl
theorem play_from : ∀ (l : List Nat) (g : Game) (d e : Nat), { l.foldl (fun x k => tickOn { x with held := k }) { g with held := d } with held := e } = { pressL l g with held := e }
  | [], _, _, _ => rfl
  | k :: l, g, d, e => by
    rw [List.foldl_cons]
    have q : tickOn { ({ g with held := d } : Game) with held := k } = { pressOn g k with held := k } := press_eq g k
    rw [q]
    exact play_from l (pressOn g k) k e
theorem pressL_held : ∀ (l : List Nat) (g : Game), (pressL l g).held = g.held
  | [], _ => rfl
  | k :: l, g => (pressL_held l (pressOn g k)).trans (pressOn_held g k).1
theorem play_eq (l : List Nat) (g : Game) : { l.foldl (fun x k => tickOn { x with held := k }) g with held := g.held } = pressL l g := by
  have h := play_from l g g.held g.held
  have e : { pressL l g with held := g.held } = pressL l g := by
    have := pressL_held l g
    cases hq : pressL l g with
    | mk a b c d e f =>
      rw [hq] at this
      show Game.mk a b c d e g.held = Game.mk a b c d e f
      have z : f = g.held := this
      rw [z]
  rw [e] at h
  exact h
theorem pressL_over : ∀ (l : List Nat) {g : Game}, g.now.over ≠ 0 → pressL l g = g
  | [], _, _ => rfl
  | k :: l, g, h => by
    show pressL l (pressOn g k) = g
    rw [pressOn_over h]
    exact pressL_over l h
theorem pressL_inv : ∀ (l : List Nat) {g : Game}, GInv g → (∀ k ∈ l, k ≤ 4) → (g.now.over = 0 → g.keys.length + l.length ≤ 400) → GInv (pressL l g)
  | [], _, h, _, _ => h
  | k :: l, g, h, hk, hl => by
    show GInv (pressL l (pressOn g k))
    have hk4 := hk k (List.mem_cons_self ..)
    by_cases ho : g.now.over = 0
    · have h1 := hl ho
      rw [List.length_cons] at h1
      refine pressL_inv l (pressOn_inv h hk4 fun _ => by omega) (fun x hx => hk x (List.mem_cons_of_mem _ hx)) fun _ => ?_
      have := pressOn_len g k
      omega
    · rw [pressOn_over ho]
      exact pressL_inv l h (fun x hx => hk x (List.mem_cons_of_mem _ hx)) fun z => absurd z ho
theorem pressL_snoc (l : List Nat) (k : Nat) (g : Game) : pressL (l ++ [k]) g = pressOn (pressL l g) k := by
  unfold pressL
  rw [List.foldl_append]
  rfl
/-! ### each call keeps what is always so -/
theorem all_le {l : List Nat} (h : ¬ (l.all fun k => decide (k ≤ 4)) = false) : ∀ k ∈ l, k ≤ 4 := fun k hk => by
  have h2 : (l.all fun k => decide (k ≤ 4)) = true := by simpa using h
  simpa using List.all_eq_true.mp h2 k hk
theorem slot_same {g : House} {x : Game} (n : Nat) : slot { g with game := x } n = slot g n := rfl
theorem SInv.setGame {g : House} (h : SInv g) {x : Game} (hx : GInv x) : SInv { g with game := x } := ⟨hx, fun n y e => h.sl n y e⟩
theorem step_inv {g : House} (h : SInv g) (c : Call) : SInv (Ge13.step g c).1 := by
  cases c with
  | cave w =>
    show SInv (if 300 < w.length ∨ (w.all fun c => decide (c ≤ 255)) = false then (g, [-1]) else (match Ge13.read w with
      | .error e => (g, [-10 - (e : Int)])
      | .ok c => ({ g with game := { game0 c with step := g.game.step } }, Ge13.ints (told c ++ [c.w, c.h])))).1
    split
    · exact h
    · rw [read_fault]
      by_cases hf : faultOf w = 0
      · rw [if_pos hf]
        exact h.setGame (game0_inv (caveOf_wf hf) ⟨rfl, rfl, rfl⟩ h.gm.st)
      · rw [if_neg hf]
        exact h
  | hold k =>
    show SInv (if 4 < k then (g, [-1]) else ({ g with game := { g.game with held := k } }, [0])).1
    split
    · exact h
    · exact h.setGame (h.gm.rest (r := g.game.rest) h.gm.st h.gm.rs (by omega))
  | frame dt =>
    show SInv (if 1000 < dt then (g, [-1]) else if 400 < g.game.keys.length + (g.game.rest + dt) / g.game.step ∧ g.game.now.over = 0 then (g, [-5]) else
      ({ g with game := Ge13.frame g.game dt }, Ge13.ints (told (Ge13.frame g.game dt).now ++ [(Ge13.frame g.game dt).rest]))).1
    split
    · exact h
    · split
      · exact h
      · rename_i hn
        exact h.setGame (frame_inv h.gm hn)
  | speed s =>
    show SInv (if s = 0 ∨ 100 < s then (g, [-1]) else ({ g with game := { g.game with step := s, rest := min g.game.rest (s - 1) } }, [0])).1
    split
    · exact h
    · exact h.setGame (h.gm.rest (by omega) (by omega) h.gm.hd)
  | save n =>
    show SInv (if 9 < n then (g, [-1]) else ({ g with slots := (g.slots.filter fun x => x.1 != n) ++ [(n, g.game)] }, Ge13.ints [g.game.now.ticks])).1
    split
    · exact h
    · refine ⟨h.gm, fun m x e => ?_⟩
      rw [slot_save] at e
      by_cases hm : m = n
      · rw [if_pos hm] at e
        cases e
        exact h.gm
      · rw [if_neg hm] at e
        exact h.sl m x e
  | load n =>
    show SInv (match slot g n with | none => (g, [-2]) | some x => ({ g with game := x }, Ge13.ints (told x.now ++ [x.rest]))).1
    cases e : slot g n with
    | none => exact h
    | some x => exact h.setGame (h.sl n x e)
  | shows => exact h
  | place x y => exact h
  | seen k => exact h
  | back k =>
    show SInv (if g.game.keys.length < k then (g, [-2]) else ({ g with game := { g.game with keys := g.game.keys.take k, now := playTo g.game k, rest := 0 } }, Ge13.ints (told (playTo g.game k)))).1
    split
    · exact h
    · exact h.setGame (back_inv h.gm (by omega))
  | keys => exact h
  | play l =>
    show SInv (if 100 < l.length ∨ (l.all fun k => decide (k ≤ 4)) = false then (g, [-1]) else if 400 < g.game.keys.length + l.length ∧ g.game.now.over = 0 then (g, [-5]) else
      ({ g with game := { l.foldl (fun x k => tickOn { x with held := k }) g.game with held := g.game.held } }, Ge13.ints (told ({ l.foldl (fun x k => tickOn { x with held := k }) g.game with held := g.game.held } : Game).now))).1
    split
    · exact h
    · rename_i h1
      split
      · exact h
      · rename_i h2
        rw [play_eq]
        exact h.setGame (pressL_inv l h.gm (all_le fun z => h1 (.inr z)) fun ho => by
          apply Classical.byContradiction
          intro z
          exact h2 ⟨by omega, ho⟩)
  | counts => exact h
  | differ n => exact h
/-! ### no answer is long -/
theorem len_ints (l : List Nat) : (Ge13.ints l).length = l.length := by simp [Ge13.ints]
theorem step_len {g : House} (h : SInv g) (c : Call) : (Ge13.step g c).2.length ≤ 1000 := by
  have hw := write_small h.gm.wf
  have hk := h.gm.kl
  cases c with
  | cave w =>
    show (if 300 < w.length ∨ (w.all fun c => decide (c ≤ 255)) = false then (g, [-1]) else (match Ge13.read w with
      | .error e => (g, [-10 - (e : Int)])
      | .ok c => ({ g with game := { game0 c with step := g.game.step } }, Ge13.ints (told c ++ [c.w, c.h])))).2.length ≤ 1000
    split
    · simp
    · split
      · simp
      · simp [len_ints, told]
  | hold k =>
    show (if 4 < k then (g, [-1]) else ({ g with game := { g.game with held := k } }, [0])).2.length ≤ 1000
    split <;> simp
  | frame dt =>
    show (if 1000 < dt then (g, [-1]) else if 400 < g.game.keys.length + (g.game.rest + dt) / g.game.step ∧ g.game.now.over = 0 then (g, [-5]) else
      ({ g with game := Ge13.frame g.game dt }, Ge13.ints (told (Ge13.frame g.game dt).now ++ [(Ge13.frame g.game dt).rest]))).2.length ≤ 1000
    split
    · simp
    · split
      · simp
      · simp [len_ints, told]
  | speed s =>
    show (if s = 0 ∨ 100 < s then (g, [-1]) else ({ g with game := { g.game with step := s, rest := min g.game.rest (s - 1) } }, [0])).2.length ≤ 1000
    split <;> simp
  | save n =>
    show (if 9 < n then (g, [-1]) else ({ g with slots := (g.slots.filter fun x => x.1 != n) ++ [(n, g.game)] }, Ge13.ints [g.game.now.ticks])).2.length ≤ 1000
    split <;> simp [len_ints]
  | load n =>
    show (match slot g n with | none => (g, [-2]) | some x => ({ g with game := x }, Ge13.ints (told x.now ++ [x.rest]))).2.length ≤ 1000
    cases slot g n with
    | none => simp
    | some x => simp [len_ints, told]
  | shows =>
    show (Ge13.ints ((write g.game.now).length :: write g.game.now)).length ≤ 1000
    rw [len_ints, List.length_cons]
    omega
  | place x y =>
    show (if g.game.now.w ≤ x ∨ g.game.now.h ≤ y then [-2] else Ge13.ints [at_ g.game.now x y]).length ≤ 1000
    split <;> simp [len_ints]
  | seen k =>
    show (if g.game.keys.length < k then [-2] else Ge13.ints (told (playTo g.game k) ++ ((write (playTo g.game k)).length :: write (playTo g.game k)))).length ≤ 1000
    split
    · simp
    · have := write_small (playTo_wf h.gm k)
      rw [len_ints, List.length_append, List.length_cons]
      show 4 + _ ≤ _
      omega
  | back k =>
    show (if g.game.keys.length < k then (g, [-2]) else ({ g with game := { g.game with keys := g.game.keys.take k, now := playTo g.game k, rest := 0 } }, Ge13.ints (told (playTo g.game k)))).2.length ≤ 1000
    split <;> simp [len_ints, told]
  | keys =>
    show (Ge13.ints (g.game.keys.length :: g.game.keys)).length ≤ 1000
    rw [len_ints, List.length_cons]
    omega
  | play l =>
    show (if 100 < l.length ∨ (l.all fun k => decide (k ≤ 4)) = false then (g, [-1]) else if 400 < g.game.keys.length + l.length ∧ g.game.now.over = 0 then (g, [-5]) else
      ({ g with game := { l.foldl (fun x k => tickOn { x with held := k }) g.game with held := g.game.held } }, Ge13.ints (told ({ l.foldl (fun x k => tickOn { x with held := k }) g.game with held := g.game.held } : Game).now))).2.length ≤ 1000
    split
    · simp
    · split
      · simp
      · simp [len_ints, told]
  | counts => simp [Ge13.step, len_ints]
  | differ n =>
    show (match slot g n with | none => [-2] | some x => match firstOther g.game x with | none => [-6] | some k => Ge13.ints [k]).length ≤ 1000
    split
    · simp
    · split <;> simp [len_ints]
end Gm

set_option Elab.async false
set_option linter.all false
namespace Gm
open Ge13
/-! ### the list of calls -/
structure One where
  p : Nat
  gv : List Nat
  cl : Call
def isRow (p : Nat) : Bool := p == 0 || p == 11
def cnt (p : Nat) : Nat := if p = 7 then 2 else if p = 6 ∨ p = 10 ∨ p = 12 then 0 else 1
def flat1 (o : One) : List Nat := if isRow o.p = true then o.p :: o.gv.length :: o.gv else o.p :: o.gv
structure OneOk (o : One) : Prop where
  call : Ge13Neutral.callIn (o.p :: o.gv) = some o.cl
  small : o.gv.length ≤ 400
  num : isRow o.p = false → o.gv.length = cnt o.p
  le : o.p ≤ 13
/-- the answers, each with its length ahead -/
def outs : House → List Call → List Int
  | _, [] => []
  | s, c :: l => ((Ge13.step s c).2.length : Int) :: ((Ge13.step s c).2 ++ outs (Ge13.step s c).1 l)
def runs (s : House) (l : List Call) : House := l.foldl (fun s c => (Ge13.step s c).1) s
theorem outs_snoc : ∀ (l : List Call) (s : House) (c : Call), outs s (l ++ [c]) = outs s l ++ (((Ge13.step (runs s l) c).2.length : Int) :: (Ge13.step (runs s l) c).2)
  | [], s, c => by simp [outs, runs]
  | d :: l, s, c => by
    show ((Ge13.step s d).2.length : Int) :: ((Ge13.step s d).2 ++ outs (Ge13.step s d).1 (l ++ [c])) = _
    rw [outs_snoc l]
    simp [outs, runs]
theorem runs_snoc (l : List Call) (s : House) (c : Call) : runs s (l ++ [c]) = (Ge13.step (runs s l) c).1 := by
  unfold runs
  rw [List.foldl_append]
  rfl
theorem nat_of {z : Int} (h : Ge13Neutral.nat z = true) : ((z.toNat : Nat) : Int) = z := by
  unfold Ge13Neutral.nat at h
  rw [Bool.and_eq_true, decide_eq_true_eq] at h
  omega
theorem ints_of {l : List Int} (h : l.all Ge13Neutral.nat = true) : Ge13.ints (l.map Int.toNat) = l := by
  unfold Ge13.ints
  rw [List.map_map]
  conv => rhs; rw [← List.map_id l]
  apply List.map_congr_left
  intro z hz
  exact nat_of (List.all_eq_true.mp h z hz)
/-- what a call as the machine reads it comes to -/
structure Reads (c : List (List Int)) (o : One) : Prop where
  ok : OneOk o
  flat : PyFlat.put1 c = Ge13.ints (flat1 o)
  step : ∀ s, Ge13Neutral.step s ((PyGe13.whole c).headD []) = Ge13.step s o.cl
theorem len1 {α : Type} {l : List α} (h : l.length = 1) : ∃ x, l = [x] := by
  match l, h with
  | [x], _ => exact ⟨x, rfl⟩
theorem len2 {α : Type} {l : List α} (h : l.length = 2) : ∃ x y, l = [x, y] := by
  match l, h with
  | [x, y], _ => exact ⟨x, y, rfl⟩
theorem len0 {α : Type} {l : List α} (h : l.length = 0) : l = [] := List.length_eq_zero_iff.mp h
theorem call_of {L : List Int} (h : Ge13Neutral.asked1 L = true) : L.all Ge13Neutral.nat = true ∧ ∃ x, Ge13Neutral.callIn (L.map Int.toNat) = some x ∧ ∀ s, Ge13Neutral.step s L = Ge13.step s x := by
  unfold Ge13Neutral.asked1 at h
  have e : Ge13Neutral.callOf L = if L.all Ge13Neutral.nat = false then none else Ge13Neutral.callIn (L.map Int.toNat) := rfl
  by_cases hn : L.all Ge13Neutral.nat = false
  · rw [e, if_pos hn] at h
    cases h
  · rw [if_neg hn] at e
    cases q : Ge13Neutral.callIn (L.map Int.toNat) with
    | none =>
      rw [e, q] at h
      cases h
    | some x =>
      refine ⟨by simpa using hn, x, rfl, fun s => ?_⟩
      unfold Ge13Neutral.step
      rw [e, q]
/-- a call of numbers alone -/
theorem reads_nums {p : Nat} {a : List Int} (hp : p ≤ 13) (hr : isRow p = false) (hc : a.length = cnt p) (hw : (PyGe13.whole [(p : Int) :: a]).headD [] = (p : Int) :: a) (h : Ge13Neutral.asked1 ((p : Int) :: a) = true) : ∃ o, Reads [(p : Int) :: a] o := by
  obtain ⟨h1, x, h2, h3⟩ := call_of h
  have h1' : a.all Ge13Neutral.nat = true := by
    rw [List.all_cons, Bool.and_eq_true] at h1
    exact h1.2
  have e : Ge13.ints (a.map Int.toNat) = a := ints_of h1'
  have hl : (a.map Int.toNat).length = cnt p := by rw [List.length_map]; exact hc
  refine ⟨⟨p, a.map Int.toNat, x⟩, ⟨h2, ?_, fun _ => hl, hp⟩, ?_, fun s => by rw [hw]; exact h3 s⟩
  · show (a.map Int.toNat).length ≤ 400
    rw [hl]
    unfold cnt
    split
    · decide
    · split <;> decide
  · show (p : Int) :: a ++ [] = Ge13.ints (flat1 ⟨p, a.map Int.toNat, x⟩)
    have ef : flat1 ⟨p, a.map Int.toNat, x⟩ = p :: a.map Int.toNat := by
      unfold flat1
      rw [if_neg (by rw [hr]; decide)]
    rw [ef, List.append_nil]
    show _ = (p : Int) :: Ge13.ints (a.map Int.toNat)
    rw [e]
/-- a call of a row -/
theorem reads_row {p : Nat} {r : List Int} (hp : p ≤ 13) (hr : isRow p = true) (hn : r.length ≤ 400) (hw : (PyGe13.whole [[(p : Int)], r]).headD [] = (p : Int) :: r) (h : Ge13Neutral.asked1 ((p : Int) :: r) = true) : ∃ o, Reads [[(p : Int)], r] o := by
  obtain ⟨h1, x, h2, h3⟩ := call_of h
  have h1' : r.all Ge13Neutral.nat = true := by
    rw [List.all_cons, Bool.and_eq_true] at h1
    exact h1.2
  have e : Ge13.ints (r.map Int.toNat) = r := ints_of h1'
  refine ⟨⟨p, r.map Int.toNat, x⟩, ⟨h2, by show (r.map Int.toNat).length ≤ 400; rw [List.length_map]; exact hn, fun z => (by rw [hr] at z; cases z), hp⟩, ?_, fun s => by rw [hw]; exact h3 s⟩
  have ef : flat1 ⟨p, r.map Int.toNat, x⟩ = p :: (r.map Int.toNat).length :: r.map Int.toNat := by
    unfold flat1
    rw [if_pos hr]
  rw [ef]
  show [(p : Int)] ++ (((r.length : Int) :: r) ++ []) = (p : Int) :: (((r.map Int.toNat).length : Nat) : Int) :: Ge13.ints (r.map Int.toNat)
  rw [e, List.length_map, List.append_nil]
  rfl
theorem reads_of {c : List (List Int)} (hk : PyFlat.okCall PyGe13.shape c) (hb : PyInside.call PyGe13.bound c = true) (ha : Ge13Neutral.asked1 ((PyGe13.whole c).headD []) = true) : ∃ o, Reads c o := by
  obtain ⟨p, a, xs, rfl, hs⟩ := hk
  have row : ∀ {q : Nat} {m : Nat}, p = (q : Int) → (q = 0 ∨ q = 11) → a.length = 0 → xs.length = 1 → ∃ r, (p :: a) :: xs = [[(q : Int)], r] := fun e _ h0 h1 => by
    obtain ⟨r, er⟩ := len1 h1
    exact ⟨r, by rw [len0 h0, er, e]⟩
  unfold PyGe13.shape at hs
  by_cases c0 : p = 0
  · rw [if_pos c0] at hs
    injection hs with hs
    injection hs with h1 h2
    subst c0
    obtain ⟨r, er⟩ := len1 h2.symm
    rw [len0 h1.symm, er] at hb ha ⊢
    have hl : r.length ≤ 400 := by
      have hb : (PyInside.each [] [] && PyInside.lists [(0, 4294967295, 0, 400)] [r]) = true := hb
      simp only [PyInside.each, PyInside.lists, Bool.true_and, Bool.and_true, Bool.and_eq_true, decide_eq_true_eq] at hb
      exact hb.1.2
    exact reads_row (p := 0) (by decide) rfl hl rfl ha
  rw [if_neg c0] at hs
  by_cases c1 : p = 1
  · rw [if_pos c1] at hs; injection hs with hs; injection hs with h1 h2; subst c1; obtain ⟨x, ex⟩ := len1 h1.symm; rw [ex, len0 h2.symm] at ha ⊢; exact reads_nums (p := 1) (by decide) rfl rfl rfl ha
  rw [if_neg c1] at hs
  by_cases c2 : p = 2
  · rw [if_pos c2] at hs; injection hs with hs; injection hs with h1 h2; subst c2; obtain ⟨x, ex⟩ := len1 h1.symm; rw [ex, len0 h2.symm] at ha ⊢; exact reads_nums (p := 2) (by decide) rfl rfl rfl ha
  rw [if_neg c2] at hs
  by_cases c3 : p = 3
  · rw [if_pos c3] at hs; injection hs with hs; injection hs with h1 h2; subst c3; obtain ⟨x, ex⟩ := len1 h1.symm; rw [ex, len0 h2.symm] at ha ⊢; exact reads_nums (p := 3) (by decide) rfl rfl rfl ha
  rw [if_neg c3] at hs
  by_cases c4 : p = 4
  · rw [if_pos c4] at hs; injection hs with hs; injection hs with h1 h2; subst c4; obtain ⟨x, ex⟩ := len1 h1.symm; rw [ex, len0 h2.symm] at ha ⊢; exact reads_nums (p := 4) (by decide) rfl rfl rfl ha
  rw [if_neg c4] at hs
  by_cases c5 : p = 5
  · rw [if_pos c5] at hs; injection hs with hs; injection hs with h1 h2; subst c5; obtain ⟨x, ex⟩ := len1 h1.symm; rw [ex, len0 h2.symm] at ha ⊢; exact reads_nums (p := 5) (by decide) rfl rfl rfl ha
  rw [if_neg c5] at hs
  by_cases c6 : p = 6
  · rw [if_pos c6] at hs; injection hs with hs; injection hs with h1 h2; subst c6; rw [len0 h1.symm, len0 h2.symm] at ha ⊢; exact reads_nums (p := 6) (by decide) rfl rfl rfl ha
  rw [if_neg c6] at hs
  by_cases c7 : p = 7
  · rw [if_pos c7] at hs; injection hs with hs; injection hs with h1 h2; subst c7; obtain ⟨x, y, ex⟩ := len2 h1.symm; rw [ex, len0 h2.symm] at ha ⊢; exact reads_nums (p := 7) (by decide) rfl rfl rfl ha
  rw [if_neg c7] at hs
  by_cases c8 : p = 8
  · rw [if_pos c8] at hs; injection hs with hs; injection hs with h1 h2; subst c8; obtain ⟨x, ex⟩ := len1 h1.symm; rw [ex, len0 h2.symm] at ha ⊢; exact reads_nums (p := 8) (by decide) rfl rfl rfl ha
  rw [if_neg c8] at hs
  by_cases c9 : p = 9
  · rw [if_pos c9] at hs; injection hs with hs; injection hs with h1 h2; subst c9; obtain ⟨x, ex⟩ := len1 h1.symm; rw [ex, len0 h2.symm] at ha ⊢; exact reads_nums (p := 9) (by decide) rfl rfl rfl ha
  rw [if_neg c9] at hs
  by_cases c10 : p = 10
  · rw [if_pos c10] at hs; injection hs with hs; injection hs with h1 h2; subst c10; rw [len0 h1.symm, len0 h2.symm] at ha ⊢; exact reads_nums (p := 10) (by decide) rfl rfl rfl ha
  rw [if_neg c10] at hs
  by_cases c11 : p = 11
  · rw [if_pos c11] at hs
    injection hs with hs
    injection hs with h1 h2
    subst c11
    obtain ⟨r, er⟩ := len1 h2.symm
    rw [len0 h1.symm, er] at hb ha ⊢
    have hl : r.length ≤ 400 := by
      have hb : (PyInside.each [] [] && PyInside.lists [(0, 4294967295, 0, 120)] [r]) = true := hb
      simp only [PyInside.each, PyInside.lists, Bool.true_and, Bool.and_true, Bool.and_eq_true, decide_eq_true_eq] at hb
      exact Nat.le_trans hb.1.2 (by decide)
    exact reads_row (p := 11) (by decide) rfl hl rfl ha
  rw [if_neg c11] at hs
  by_cases c12 : p = 12
  · rw [if_pos c12] at hs; injection hs with hs; injection hs with h1 h2; subst c12; rw [len0 h1.symm, len0 h2.symm] at ha ⊢; exact reads_nums (p := 12) (by decide) rfl rfl rfl ha
  rw [if_neg c12] at hs
  by_cases c13 : p = 13
  · rw [if_pos c13] at hs; injection hs with hs; injection hs with h1 h2; subst c13; obtain ⟨x, ex⟩ := len1 h1.symm; rw [ex, len0 h2.symm] at ha ⊢; exact reads_nums (p := 13) (by decide) rfl rfl rfl ha
  rw [if_neg c13] at hs
  cases hs
/-! ### all of them -/
def flats (cs : List One) : List Nat := cs.flatMap flat1
theorem ints_append (l m : List Nat) : Ge13.ints (l ++ m) = Ge13.ints l ++ Ge13.ints m := by simp [Ge13.ints]
theorem all_reads : ∀ (raw : List (List (List Int))), (∀ c ∈ raw, PyFlat.okCall PyGe13.shape c) → PyInside.calls PyGe13.bound raw = true → ((raw.map PyGe13.whole).map fun c => c.headD []).all Ge13Neutral.asked1 = true →
    ∃ cs : List One, (∀ o ∈ cs, OneOk o) ∧ cs.length = raw.length ∧ PyFlat.put raw = Ge13.ints (flats cs) ∧
      ∀ s, PyFlat.told (PyFlat.played (fun s c => Ge13Neutral.step s (c.headD [])) s (raw.map PyGe13.whole)) = outs s (cs.map One.cl)
  | [], _, _, _ => ⟨[], by simp, rfl, rfl, fun _ => rfl⟩
  | c :: raw, h1, h2, h3 => by
    have h2a : PyInside.call PyGe13.bound c = true ∧ PyInside.calls PyGe13.bound raw = true := by
      unfold PyInside.calls at h2
      rw [List.all_cons, Bool.and_eq_true] at h2
      exact h2
    rw [List.map_cons, List.map_cons, List.all_cons, Bool.and_eq_true] at h3
    obtain ⟨o, ho⟩ := reads_of (h1 c (List.mem_cons_self ..)) h2a.1 h3.1
    obtain ⟨cs, k1, k2, k3, k4⟩ := all_reads raw (fun d hd => h1 d (List.mem_cons_of_mem _ hd)) h2a.2 h3.2
    refine ⟨o :: cs, fun x hx => ?_, by rw [List.length_cons, List.length_cons, k2], ?_, fun s => ?_⟩
    · rcases List.mem_cons.mp hx with z | z
      · rw [z]; exact ho.ok
      · exact k1 x z
    · show PyFlat.put1 c ++ PyFlat.put raw = Ge13.ints (flat1 o ++ flats cs)
      rw [ho.flat, k3, ints_append]
    · show (((Ge13Neutral.step s ((PyGe13.whole c).headD [])).2.length : Int) :: (Ge13Neutral.step s ((PyGe13.whole c).headD [])).2) ++ PyFlat.told (PyFlat.played (fun s c => Ge13Neutral.step s (c.headD [])) (Ge13Neutral.step s ((PyGe13.whole c).headD [])).1 (raw.map PyGe13.whole)) = _
      rw [ho.step, k4]
      rfl
/-- what is asked, read -/
theorem asked_reads {ns : List Int} (h : PyGe13.answers_asked ns = true) : ∃ cs : List One, (∀ o ∈ cs, OneOk o) ∧ cs.length ≤ 40 ∧ ns = Ge13.ints (flats cs) ∧ PyGe13.answers ns = outs Ge13.init (cs.map One.cl) := by
  unfold PyGe13.answers_asked at h
  cases e : PyFlat.calls PyGe13.shape ns.length ns with
  | none =>
    rw [e] at h
    cases h
  | some raw =>
    rw [e] at h
    simp only [Bool.and_eq_true] at h
    obtain ⟨⟨⟨⟨h1, h2⟩, h3⟩, h4⟩, h5⟩ := h
    obtain ⟨e1, hok⟩ := PyFlat.put_calls _ _ _ e
    unfold Ge13Neutral.asked at h4
    rw [Bool.and_eq_true] at h4
    obtain ⟨cs, k1, k2, k3, k4⟩ := all_reads raw hok h3 h4.1
    refine ⟨cs, k1, ?_, by rw [e1, k3], ?_⟩
    · rw [k2]
      unfold PyFlat.atMost at h2
      exact of_decide_eq_true h2
    · unfold PyGe13.answers PyGe13.calls
      rw [e]
      exact k4 _
end Gm

set_option Elab.async false
set_option linter.all false
namespace Gm
open Ge13
/-! ### played to a tick -/
theorem playTo_zero (g : Game) : playTo g 0 = g.first := by
  unfold playTo
  rw [List.take_zero]
  rfl
theorem playTo_cut (g : Game) {i k : Nat} (h : i ≤ k) (n : Cave) (r : Nat) : playTo { g with keys := g.keys.take k, now := n, rest := r } i = playTo g i := by
  unfold playTo
  dsimp only
  rw [List.take_take, Nat.min_eq_left h]
theorem playTo_old (g : Game) (key : Nat) (n : Cave) {i : Nat} (h : i ≤ g.keys.length) : playTo { g with keys := g.keys ++ [key], now := n } i = playTo g i := by
  unfold playTo
  dsimp only
  rw [List.take_append_of_le_length h]
theorem playTo_new (g : Game) (key : Nat) (n : Cave) : playTo { g with keys := g.keys ++ [key], now := n } (g.keys.length + 1) = tick (playTo g g.keys.length) key := by
  unfold playTo
  dsimp only
  rw [List.take_length, List.take_of_length_le (by simp), List.foldl_append]
  rfl
theorem playTo_all {g : Game} (h : GInv g) : g.now = playTo g g.keys.length := by
  unfold playTo
  rw [List.take_length]
  exact h.now
theorem fold_wf' : ∀ (l : List Nat) {c : Cave}, Wf c → Wf (l.foldl tick c)
  | [], _, h => h
  | k :: l, c, h => fold_wf' l (tick_wf (key := k) h)
theorem playTo_ok {g : Game} (h : GInv g) (k : Nat) : Wf (playTo g k) := fold_wf' _ h.wf1
/-! ### where two games part -/
theorem firstFrom_none : ∀ (ks ls : List Nat) (n : Nat) (x y : Cave), (∀ i, i ≤ ks.length → i ≤ ls.length → (ks.take i).foldl tick x = (ls.take i).foldl tick y) → firstFrom ks ls n x y = none
  | k :: ks, l :: ls, n, x, y, h => by
    have e : x = y := h 0 (Nat.zero_le _) (Nat.zero_le _)
    unfold firstFrom
    rw [if_neg (by rw [e]; simp)]
    exact firstFrom_none ks ls (n + 1) (tick x k) (tick y l) fun i h1 h2 => h (i + 1) (Nat.succ_le_succ h1) (Nat.succ_le_succ h2)
  | [], ls, n, x, y, h => by
    have e : x = y := h 0 (Nat.zero_le _) (Nat.zero_le _)
    unfold firstFrom
    rw [if_neg (by rw [e]; simp)]
  | k :: ks, [], n, x, y, h => by
    have e : x = y := h 0 (Nat.zero_le _) (Nat.zero_le _)
    unfold firstFrom
    rw [if_neg (by rw [e]; simp)]
theorem firstFrom_some : ∀ (ks ls : List Nat) (n j : Nat) (x y : Cave), j ≤ ks.length → j ≤ ls.length → (∀ i, i < j → (ks.take i).foldl tick x = (ls.take i).foldl tick y) → (ks.take j).foldl tick x ≠ (ls.take j).foldl tick y → firstFrom ks ls n x y = some (n + j)
  | k :: ks, l :: ls, n, 0, x, y, _, _, _, d => by
    have d : x ≠ y := d
    unfold firstFrom
    rw [if_pos (by simpa using d)]
    rfl
  | [], ls, n, 0, x, y, _, _, _, d => by
    have d : x ≠ y := d
    unfold firstFrom
    rw [if_pos (by simpa using d)]
    rfl
  | k :: ks, [], n, 0, x, y, _, _, _, d => by
    have d : x ≠ y := d
    unfold firstFrom
    rw [if_pos (by simpa using d)]
    rfl
  | k :: ks, l :: ls, n, j + 1, x, y, h1, h2, h, d => by
    have e : x = y := h 0 (Nat.succ_pos _)
    unfold firstFrom
    rw [if_neg (by rw [e]; simp), firstFrom_some ks ls (n + 1) j (tick x k) (tick y l) (Nat.le_of_succ_le_succ h1) (Nat.le_of_succ_le_succ h2) (fun i hi => h (i + 1) (Nat.succ_lt_succ hi)) d]
    congr 1
    omega
  | [], _, _, j + 1, _, _, h1, _, _, _ => by cases h1
  | _ :: _, [], _, j + 1, _, _, _, h2, _, _ => by cases h2
theorem other_none {a b : Game} (h : ∀ i, i ≤ a.keys.length → i ≤ b.keys.length → playTo a i = playTo b i) : firstOther a b = none := firstFrom_none _ _ _ _ _ h
theorem other_some {a b : Game} {j : Nat} (h1 : j ≤ a.keys.length) (h2 : j ≤ b.keys.length) (h : ∀ i, i < j → playTo a i = playTo b i) (d : playTo a j ≠ playTo b j) : firstOther a b = some j := by
  have e := firstFrom_some a.keys b.keys 0 j a.first b.first h1 h2 h d
  rw [Nat.zero_add] at e
  exact e
/-! ### two caves alike -/
theorem rim_inj {c d : Cave} (hw : c.w = d.w) (hh : c.h = d.h) (l1 : c.cells.length = c.w * c.h) (l2 : d.cells.length = d.w * d.h) (h : rim c = rim d) : c.cells = d.cells := by
  apply List.ext_getElem
  · rw [l1, l2, hw, hh]
  · intro i h1 h2
    have hi : i < c.h * c.w := by rw [l1, Nat.mul_comm] at h1; exact h1
    obtain ⟨hx, hy, e⟩ := split_at c.h hi
    have q1 := rim_pos c (x := i % c.w) (y := i / c.w) (Nat.le_of_lt hx) (Nat.le_of_lt hy)
    have q2 := rim_pos d (x := i % c.w) (y := i / c.w) (by rw [← hw]; exact Nat.le_of_lt hx) (by rw [← hh]; exact Nat.le_of_lt hy)
    have ep : pos d (i % c.w) (i / c.w) = pos c (i % c.w) (i / c.w) := by unfold pos; rw [hw]
    rw [← h, ep, q1] at q2
    have q3 : at_ c (i % c.w) (i / c.w) = at_ d (i % c.w) (i / c.w) := Option.some.inj q2
    unfold at_ at q3
    rw [if_pos ⟨hx, hy⟩, if_pos ⟨by rw [← hw]; exact hx, by rw [← hh]; exact hy⟩, ← hw, ← e] at q3
    rw [List.getD_eq_getElem?_getD, List.getD_eq_getElem?_getD, List.getElem?_eq_getElem h1, List.getElem?_eq_getElem h2] at q3
    exact q3
theorem cave_ext {c d : Cave} (h1 : c.w = d.w) (h2 : c.h = d.h) (h3 : c.cells = d.cells) (h4 : c.over = d.over) (h5 : c.points = d.points) (h6 : c.ticks = d.ticks) : c = d := by
  cases c
  cases d
  cases h1
  cases h2
  cases h3
  cases h4
  cases h5
  cases h6
  rfl
def same (c d : Cave) : Bool := decide (c.w = d.w) && (decide (c.h = d.h) && decide (rim c = rim d))
def alike (c d : Cave) : Bool := if (!decide (c.over = d.over) || !decide (c.points = d.points)) = true then false else same c d
theorem alike_iff {c d : Cave} (l1 : c.cells.length = c.w * c.h) (l2 : d.cells.length = d.w * d.h) (ht : c.ticks = d.ticks) : alike c d = true ↔ c = d := by
  unfold alike same
  constructor
  · intro h
    split at h
    · cases h
    · rename_i q
      simp only [Bool.or_eq_true, Bool.not_eq_true', decide_eq_false_iff_not, not_or, Decidable.not_not] at q
      simp only [Bool.and_eq_true, decide_eq_true_eq] at h
      exact cave_ext h.1 h.2.1 (rim_inj h.1 h.2.1 l1 l2 h.2.2) q.1 q.2 ht
  · rintro rfl
    simp
/-! ### what there is of each -/
def cntTo (l : List Nat) : List Nat := (List.range 13).map fun v => (l.filter fun u => u == v).length
theorem cntTo_nil : cntTo [] = List.replicate 13 0 := by decide
theorem cntTo_len (l : List Nat) : (cntTo l).length = 13 := by simp [cntTo]
theorem cntTo_get (l : List Nat) {v : Nat} (h : v < 13) : (cntTo l)[v]? = some (l.filter fun u => u == v).length := by
  unfold cntTo
  rw [List.getElem?_map, List.getElem?_range h]
  rfl
theorem cntTo_snoc (l : List Nat) {t : Nat} (h : t < 13) : (cntTo l).set t ((l.filter fun u => u == t).length + 1) = cntTo (l ++ [t]) := by
  apply List.ext_getElem?
  intro v
  by_cases hv : v < 13
  · rw [cntTo_get _ hv, List.getElem?_set, cntTo_len]
    by_cases e : t = v
    · subst e
      rw [if_pos rfl, if_pos h, List.filter_append]
      simp
    · rw [if_neg e, cntTo_get _ hv, List.filter_append]
      have : (t == v) = false := beq_eq_false_iff_ne.mpr e
      simp [this]
  · rw [List.getElem?_eq_none (by rw [List.length_set, cntTo_len]; omega), List.getElem?_eq_none (by rw [cntTo_len]; omega)]
/-- the places of the first rows -/
def cellsTo (c : Cave) (n : Nat) : List Nat := (List.range n).flatMap (rowOf c)
theorem cellsTo_succ (c : Cave) (n : Nat) : cellsTo c (n + 1) = cellsTo c n ++ rowOf c n := by
  unfold cellsTo
  rw [List.range_succ, List.flatMap_append]
  simp
theorem cellsTo_all {c : Cave} (h : c.cells.length = c.w * c.h) : cellsTo c c.h = c.cells := by
  rw [← rows_cells h]
  unfold cellsTo rowsOf
  rw [List.flatMap_def]
theorem cellsTo_len (c : Cave) : ∀ n, (cellsTo c n).length = n * c.w
  | 0 => by simp [cellsTo]
  | n + 1 => by rw [cellsTo_succ, List.length_append, cellsTo_len c n, rowOf_len, Nat.succ_mul]
theorem counts_is (c : Cave) : cntTo c.cells = (List.range 13).map fun v => (c.cells.filter fun u => u == v).length := rfl
end Gm

set_option Elab.async false
set_option linter.all false
set_option maxRecDepth 100000
set_option maxHeartbeats 2000000
namespace G
open PySem PySem.Spec PyProof.Rows L2
def top (i : Nat) : Stmt := PySem.Challenge.pw_stonecave_s01_answers.main.body.getD i (.Pass ⟨0, 0, 0, 0⟩)
abbrev s_Cave_init : Stmt := inClass (top 31) 0
abbrev nm_Cave_init : List Str := ["self", "wide", "high", "places"]
theorem sc_Cave_init : FnScope nm_Cave_init ["self", "wide", "high", "places"] (C8.fnScope s_Cave_init) := C8.fnScope_by (by decide +kernel)
abbrev s_Standing_init : Stmt := inClass (top 59) 0
abbrev nm_Standing_init : List Str := ["self", "cave"]
theorem sc_Standing_init : FnScope nm_Standing_init ["self", "cave"] (C8.fnScope s_Standing_init) := C8.fnScope_by (by decide +kernel)
abbrev s_Tick_init : Stmt := inClass (top 60) 0
abbrev nm_Tick_init : List Str := ["self", "standing", "key"]
theorem sc_Tick_init : FnScope nm_Tick_init ["self", "standing", "key"] (C8.fnScope s_Tick_init) := C8.fnScope_by (by decide +kernel)
abbrev s_Game_init : Stmt := inClass (top 76) 0
abbrev nm_Game_init : List Str := ["self", "cave", "tick_parts"]
theorem sc_Game_init : FnScope nm_Game_init ["self", "cave", "tick_parts"] (C8.fnScope s_Game_init) := C8.fnScope_by (by decide +kernel)
abbrev s_Session_init : Stmt := inClass (top 102) 0
abbrev nm_Session_init : List Str := ["self"]
theorem sc_Session_init : FnScope nm_Session_init ["self"] (C8.fnScope s_Session_init) := C8.fnScope_by (by decide +kernel)
abbrev s_is_known_byte : Stmt := top 13
abbrev nm_is_known_byte : List Str := ["byte"]
theorem sc_is_known_byte : FnScope nm_is_known_byte ["byte"] (C8.fnScope s_is_known_byte) := C8.fnScope_by (by decide +kernel)
abbrev s_byte_of : Stmt := top 14
abbrev nm_byte_of : List Str := ["thing"]
theorem sc_byte_of : FnScope nm_byte_of ["thing"] (C8.fnScope s_byte_of) := C8.fnScope_by (by decide +kernel)
abbrev s_thing_of : Stmt := top 15
abbrev nm_thing_of : List Str := ["byte", "found", "thing", "known"]
theorem sc_thing_of : FnScope nm_thing_of ["byte"] (C8.fnScope s_thing_of) := C8.fnScope_by (by decide +kernel)
abbrev s_count_kinds : Stmt := top 16
abbrev nm_count_kinds : List Str := []
theorem sc_count_kinds : FnScope nm_count_kinds [] (C8.fnScope s_count_kinds) := C8.fnScope_by (by decide +kernel)
abbrev s_is_lying : Stmt := top 17
abbrev nm_is_lying : List Str := ["thing"]
theorem sc_is_lying : FnScope nm_is_lying ["thing"] (C8.fnScope s_is_lying) := C8.fnScope_by (by decide +kernel)
abbrev s_is_falling : Stmt := top 18
abbrev nm_is_falling : List Str := ["thing"]
theorem sc_is_falling : FnScope nm_is_falling ["thing"] (C8.fnScope s_is_falling) := C8.fnScope_by (by decide +kernel)
abbrev s_is_gem : Stmt := top 19
abbrev nm_is_gem : List Str := ["thing"]
theorem sc_is_gem : FnScope nm_is_gem ["thing"] (C8.fnScope s_is_gem) := C8.fnScope_by (by decide +kernel)
abbrev s_is_monster : Stmt := top 20
abbrev nm_is_monster : List Str := ["thing"]
theorem sc_is_monster : FnScope nm_is_monster ["thing"] (C8.fnScope s_is_monster) := C8.fnScope_by (by decide +kernel)
abbrev s_lying : Stmt := top 21
abbrev nm_lying : List Str := ["thing"]
theorem sc_lying : FnScope nm_lying ["thing"] (C8.fnScope s_lying) := C8.fnScope_by (by decide +kernel)
abbrev s_falling : Stmt := top 22
abbrev nm_falling : List Str := ["thing"]
theorem sc_falling : FnScope nm_falling ["thing"] (C8.fnScope s_falling) := C8.fnScope_by (by decide +kernel)
abbrev s_stride : Stmt := top 32
abbrev nm_stride : List Str := ["cave"]
theorem sc_stride : FnScope nm_stride ["cave"] (C8.fnScope s_stride) := C8.fnScope_by (by decide +kernel)
abbrev s_steps : Stmt := top 33
abbrev nm_steps : List Str := ["cave"]
theorem sc_steps : FnScope nm_steps ["cave"] (C8.fnScope s_steps) := C8.fnScope_by (by decide +kernel)
abbrev s_row_begin : Stmt := top 34
abbrev nm_row_begin : List Str := ["cave", "down"]
theorem sc_row_begin : FnScope nm_row_begin ["cave", "down"] (C8.fnScope s_row_begin) := C8.fnScope_by (by decide +kernel)
abbrev s_row_of : Stmt := top 35
abbrev nm_row_of : List Str := ["cave", "down", "begin"]
theorem sc_row_of : FnScope nm_row_of ["cave", "down"] (C8.fnScope s_row_of) := C8.fnScope_by (by decide +kernel)
abbrev s_is_within : Stmt := top 36
abbrev nm_is_within : List Str := ["cave", "across", "down"]
theorem sc_is_within : FnScope nm_is_within ["cave", "across", "down"] (C8.fnScope s_is_within) := C8.fnScope_by (by decide +kernel)
abbrev s_thing_at : Stmt := top 37
abbrev nm_thing_at : List Str := ["cave", "across", "down"]
theorem sc_thing_at : FnScope nm_thing_at ["cave", "across", "down"] (C8.fnScope s_thing_at) := C8.fnScope_by (by decide +kernel)
abbrev s_copy_cave : Stmt := top 38
abbrev nm_copy_cave : List Str := ["cave"]
theorem sc_copy_cave : FnScope nm_copy_cave ["cave"] (C8.fnScope s_copy_cave) := C8.fnScope_by (by decide +kernel)
abbrev s_are_same_caves : Stmt := top 39
abbrev nm_are_same_caves : List Str := ["cave", "other"]
theorem sc_are_same_caves : FnScope nm_are_same_caves ["cave", "other"] (C8.fnScope s_are_same_caves) := C8.fnScope_by (by decide +kernel)
abbrev s_count_gems : Stmt := top 40
abbrev nm_count_gems : List Str := ["cave"]
theorem sc_count_gems : FnScope nm_count_gems ["cave"] (C8.fnScope s_count_gems) := C8.fnScope_by (by decide +kernel)
abbrev s_count_things : Stmt := top 41
abbrev nm_count_things : List Str := ["cave", "counts", "down", "thing"]
theorem sc_count_things : FnScope nm_count_things ["cave"] (C8.fnScope s_count_things) := C8.fnScope_by (by decide +kernel)
abbrev s_split_rows : Stmt := top 42
abbrev nm_split_rows : List Str := ["text", "rows", "row", "byte"]
theorem sc_split_rows : FnScope nm_split_rows ["text"] (C8.fnScope s_split_rows) := C8.fnScope_by (by decide +kernel)
abbrev s_has_strange_byte : Stmt := top 43
abbrev nm_has_strange_byte : List Str := ["text", "byte"]
theorem sc_has_strange_byte : FnScope nm_has_strange_byte ["text"] (C8.fnScope s_has_strange_byte) := C8.fnScope_by (by decide +kernel)
abbrev s_has_uneven_rows : Stmt := top 44
abbrev nm_has_uneven_rows : List Str := ["rows", "row"]
theorem sc_has_uneven_rows : FnScope nm_has_uneven_rows ["rows"] (C8.fnScope s_has_uneven_rows) := C8.fnScope_by (by decide +kernel)
abbrev s_has_wrong_size : Stmt := top 45
abbrev nm_has_wrong_size : List Str := ["rows"]
theorem sc_has_wrong_size : FnScope nm_has_wrong_size ["rows"] (C8.fnScope s_has_wrong_size) := C8.fnScope_by (by decide +kernel)
abbrev s_find_fault : Stmt := top 46
abbrev nm_find_fault : List Str := ["text", "rows"]
theorem sc_find_fault : FnScope nm_find_fault ["text"] (C8.fnScope s_find_fault) := C8.fnScope_by (by decide +kernel)
abbrev s_read_cave : Stmt := top 47
abbrev nm_read_cave : List Str := ["text", "rows", "rim", "places", "row", "byte"]
theorem sc_read_cave : FnScope nm_read_cave ["text"] (C8.fnScope s_read_cave) := C8.fnScope_by (by decide +kernel)
abbrev s_write_cave : Stmt := top 48
abbrev nm_write_cave : List Str := ["cave", "text", "down", "thing"]
theorem sc_write_cave : FnScope nm_write_cave ["cave"] (C8.fnScope s_write_cave) := C8.fnScope_by (by decide +kernel)
abbrev s_copy_standing : Stmt := top 61
abbrev nm_copy_standing : List Str := ["standing", "twin"]
theorem sc_copy_standing : FnScope nm_copy_standing ["standing"] (C8.fnScope s_copy_standing) := C8.fnScope_by (by decide +kernel)
abbrev s_stand_alike : Stmt := top 62
abbrev nm_stand_alike : List Str := ["standing", "other"]
theorem sc_stand_alike : FnScope nm_stand_alike ["standing", "other"] (C8.fnScope s_stand_alike) := C8.fnScope_by (by decide +kernel)
abbrev s_is_over : Stmt := top 63
abbrev nm_is_over : List Str := ["standing"]
theorem sc_is_over : FnScope nm_is_over ["standing"] (C8.fnScope s_is_over) := C8.fnScope_by (by decide +kernel)
abbrev s_run_tick : Stmt := top 64
abbrev nm_run_tick : List Str := ["standing", "key", "cave", "tick", "down", "begin", "place"]
theorem sc_run_tick : FnScope nm_run_tick ["standing", "key"] (C8.fnScope s_run_tick) := C8.fnScope_by (by decide +kernel)
abbrev s_take_turn : Stmt := top 65
abbrev nm_take_turn : List Str := ["tick", "place", "thing"]
theorem sc_take_turn : FnScope nm_take_turn ["tick", "place"] (C8.fnScope s_take_turn) := C8.fnScope_by (by decide +kernel)
abbrev s_go : Stmt := top 66
abbrev nm_go : List Str := ["tick", "place", "there", "thing"]
theorem sc_go : FnScope nm_go ["tick", "place", "there", "thing"] (C8.fnScope s_go) := C8.fnScope_by (by decide +kernel)
abbrev s_end : Stmt := top 67
abbrev nm_end : List Str := ["tick", "outcome", "standing"]
theorem sc_end : FnScope nm_end ["tick", "outcome"] (C8.fnScope s_end) := C8.fnScope_by (by decide +kernel)
abbrev s_score : Stmt := top 68
abbrev nm_score : List Str := ["tick", "points", "standing"]
theorem sc_score : FnScope nm_score ["tick", "points"] (C8.fnScope s_score) := C8.fnScope_by (by decide +kernel)
abbrev s_turn_player : Stmt := top 69
abbrev nm_turn_player : List Str := ["tick", "place", "way", "there", "thing"]
theorem sc_turn_player : FnScope nm_turn_player ["tick", "place"] (C8.fnScope s_turn_player) := C8.fnScope_by (by decide +kernel)
abbrev s_push : Stmt := top 70
abbrev nm_push : List Str := ["tick", "place", "way", "stone", "behind"]
theorem sc_push : FnScope nm_push ["tick", "place", "way"] (C8.fnScope s_push) := C8.fnScope_by (by decide +kernel)
abbrev s_turn_loose : Stmt := top 71
abbrev nm_turn_loose : List Str := ["tick", "place", "thing", "there", "below"]
theorem sc_turn_loose : FnScope nm_turn_loose ["tick", "place"] (C8.fnScope s_turn_loose) := C8.fnScope_by (by decide +kernel)
abbrev s_hit_monster : Stmt := top 72
abbrev nm_hit_monster : List Str := ["tick", "place", "there"]
theorem sc_hit_monster : FnScope nm_hit_monster ["tick", "place", "there"] (C8.fnScope s_hit_monster) := C8.fnScope_by (by decide +kernel)
abbrev s_roll : Stmt := top 73
abbrev nm_roll : List Str := ["tick", "place", "thing", "way", "there", "below"]
theorem sc_roll : FnScope nm_roll ["tick", "place"] (C8.fnScope s_roll) := C8.fnScope_by (by decide +kernel)
abbrev s_turn_monster : Stmt := top 74
abbrev nm_turn_monster : List Str := ["tick", "place", "looks", "way", "there", "step"]
theorem sc_turn_monster : FnScope nm_turn_monster ["tick", "place"] (C8.fnScope s_turn_monster) := C8.fnScope_by (by decide +kernel)
abbrev s_copy_game : Stmt := top 77
abbrev nm_copy_game : List Str := ["game", "twin"]
theorem sc_copy_game : FnScope nm_copy_game ["game"] (C8.fnScope s_copy_game) := C8.fnScope_by (by decide +kernel)
abbrev s_count_ticks : Stmt := top 78
abbrev nm_count_ticks : List Str := ["game"]
theorem sc_count_ticks : FnScope nm_count_ticks ["game"] (C8.fnScope s_count_ticks) := C8.fnScope_by (by decide +kernel)
abbrev s_standing_behind : Stmt := top 79
abbrev nm_standing_behind : List Str := ["game", "ticks"]
theorem sc_standing_behind : FnScope nm_standing_behind ["game", "ticks"] (C8.fnScope s_standing_behind) := C8.fnScope_by (by decide +kernel)
abbrev s_standing_now : Stmt := top 80
abbrev nm_standing_now : List Str := ["game"]
theorem sc_standing_now : FnScope nm_standing_now ["game"] (C8.fnScope s_standing_now) := C8.fnScope_by (by decide +kernel)
abbrev s_how_it_stood : Stmt := top 81
abbrev nm_how_it_stood : List Str := ["game", "ticks", "standing"]
theorem sc_how_it_stood : FnScope nm_how_it_stood ["game", "ticks"] (C8.fnScope s_how_it_stood) := C8.fnScope_by (by decide +kernel)
abbrev s_how_it_stands : Stmt := top 82
abbrev nm_how_it_stands : List Str := ["game"]
theorem sc_how_it_stands : FnScope nm_how_it_stands ["game"] (C8.fnScope s_how_it_stands) := C8.fnScope_by (by decide +kernel)
abbrev s_press : Stmt := top 83
abbrev nm_press : List Str := ["game", "key", "standing"]
theorem sc_press : FnScope nm_press ["game", "key"] (C8.fnScope s_press) := C8.fnScope_by (by decide +kernel)
abbrev s_go_back : Stmt := top 84
abbrev nm_go_back : List Str := ["game", "ticks"]
theorem sc_go_back : FnScope nm_go_back ["game", "ticks"] (C8.fnScope s_go_back) := C8.fnScope_by (by decide +kernel)
abbrev s_find_parting : Stmt := top 85
abbrev nm_find_parting : List Str := ["game", "other", "ticks"]
theorem sc_find_parting : FnScope nm_find_parting ["game", "other"] (C8.fnScope s_find_parting) := C8.fnScope_by (by decide +kernel)
abbrev s_cave_now : Stmt := top 103
abbrev nm_cave_now : List Str := ["session"]
theorem sc_cave_now : FnScope nm_cave_now ["session"] (C8.fnScope s_cave_now) := C8.fnScope_by (by decide +kernel)
abbrev s_refuse : Stmt := top 104
abbrev nm_refuse : List Str := ["number"]
theorem sc_refuse : FnScope nm_refuse ["number"] (C8.fnScope s_refuse) := C8.fnScope_by (by decide +kernel)
abbrev s_answer_cave : Stmt := top 105
abbrev nm_answer_cave : List Str := ["session", "text", "fault", "cave", "byte"]
theorem sc_answer_cave : FnScope nm_answer_cave ["session", "text"] (C8.fnScope s_answer_cave) := C8.fnScope_by (by decide +kernel)
abbrev s_answer_hold : Stmt := top 106
abbrev nm_answer_hold : List Str := ["session", "given", "key", "game"]
theorem sc_answer_hold : FnScope nm_answer_hold ["session", "given"] (C8.fnScope s_answer_hold) := C8.fnScope_by (by decide +kernel)
abbrev s_are_too_many : Stmt := top 107
abbrev nm_are_too_many : List Str := ["game", "ticks"]
theorem sc_are_too_many : FnScope nm_are_too_many ["game", "ticks"] (C8.fnScope s_are_too_many) := C8.fnScope_by (by decide +kernel)
abbrev s_answer_frame : Stmt := top 108
abbrev nm_answer_frame : List Str := ["session", "given", "parts", "game", "together", "ticks", "tick"]
theorem sc_answer_frame : FnScope nm_answer_frame ["session", "given"] (C8.fnScope s_answer_frame) := C8.fnScope_by (by decide +kernel)
abbrev s_answer_speed : Stmt := top 109
abbrev nm_answer_speed : List Str := ["session", "given", "parts", "game"]
theorem sc_answer_speed : FnScope nm_answer_speed ["session", "given"] (C8.fnScope s_answer_speed) := C8.fnScope_by (by decide +kernel)
abbrev s_answer_save : Stmt := top 110
abbrev nm_answer_save : List Str := ["session", "given", "where"]
theorem sc_answer_save : FnScope nm_answer_save ["session", "given"] (C8.fnScope s_answer_save) := C8.fnScope_by (by decide +kernel)
abbrev s_answer_load : Stmt := top 111
abbrev nm_answer_load : List Str := ["session", "given", "where"]
theorem sc_answer_load : FnScope nm_answer_load ["session", "given"] (C8.fnScope s_answer_load) := C8.fnScope_by (by decide +kernel)
abbrev s_counted_text : Stmt := top 112
abbrev nm_counted_text : List Str := ["cave", "text"]
theorem sc_counted_text : FnScope nm_counted_text ["cave"] (C8.fnScope s_counted_text) := C8.fnScope_by (by decide +kernel)
abbrev s_answer_shows : Stmt := top 113
abbrev nm_answer_shows : List Str := ["session", "given"]
theorem sc_answer_shows : FnScope nm_answer_shows ["session", "given"] (C8.fnScope s_answer_shows) := C8.fnScope_by (by decide +kernel)
abbrev s_answer_place : Stmt := top 114
abbrev nm_answer_place : List Str := ["session", "given", "across", "down", "cave"]
theorem sc_answer_place : FnScope nm_answer_place ["session", "given"] (C8.fnScope s_answer_place) := C8.fnScope_by (by decide +kernel)
abbrev s_answer_seen : Stmt := top 115
abbrev nm_answer_seen : List Str := ["session", "given", "ticks"]
theorem sc_answer_seen : FnScope nm_answer_seen ["session", "given"] (C8.fnScope s_answer_seen) := C8.fnScope_by (by decide +kernel)
abbrev s_answer_back : Stmt := top 116
abbrev nm_answer_back : List Str := ["session", "given", "ticks"]
theorem sc_answer_back : FnScope nm_answer_back ["session", "given"] (C8.fnScope s_answer_back) := C8.fnScope_by (by decide +kernel)
abbrev s_answer_keys : Stmt := top 117
abbrev nm_answer_keys : List Str := ["session", "given"]
theorem sc_answer_keys : FnScope nm_answer_keys ["session", "given"] (C8.fnScope s_answer_keys) := C8.fnScope_by (by decide +kernel)
abbrev s_answer_play : Stmt := top 118
abbrev nm_answer_play : List Str := ["session", "pressed", "game", "key"]
theorem sc_answer_play : FnScope nm_answer_play ["session", "pressed"] (C8.fnScope s_answer_play) := C8.fnScope_by (by decide +kernel)
abbrev s_answer_counts : Stmt := top 119
abbrev nm_answer_counts : List Str := ["session", "given"]
theorem sc_answer_counts : FnScope nm_answer_counts ["session", "given"] (C8.fnScope s_answer_counts) := C8.fnScope_by (by decide +kernel)
abbrev s_answer_differ : Stmt := top 120
abbrev nm_answer_differ : List Str := ["session", "given", "where", "parting"]
theorem sc_answer_differ : FnScope nm_answer_differ ["session", "given"] (C8.fnScope s_answer_differ) := C8.fnScope_by (by decide +kernel)
abbrev s_answer_call : Stmt := top 122
abbrev nm_answer_call : List Str := ["session", "number", "given"]
theorem sc_answer_call : FnScope nm_answer_call ["session", "number", "given"] (C8.fnScope s_answer_call) := C8.fnScope_by (by decide +kernel)
abbrev s_given_begin : Stmt := top 126
abbrev nm_given_begin : List Str := ["calls", "at"]
theorem sc_given_begin : FnScope nm_given_begin ["calls", "at"] (C8.fnScope s_given_begin) := C8.fnScope_by (by decide +kernel)
abbrev s_given_end : Stmt := top 127
abbrev nm_given_end : List Str := ["calls", "at", "count"]
theorem sc_given_end : FnScope nm_given_end ["calls", "at"] (C8.fnScope s_given_end) := C8.fnScope_by (by decide +kernel)
abbrev s_answers : Stmt := top 128
abbrev nm_answers : List Str := ["calls", "session", "told", "at", "call_end", "answer"]
theorem sc_answers : FnScope nm_answers ["calls"] (C8.fnScope s_answers) := C8.fnScope_by (by decide +kernel)
/-- where the top has put its classes and tables -/
structure Ad where
  cCave : Addr
  cStanding : Addr
  cTick : Addr
  cGame : Addr
  cSession : Addr
  aBYTES : Addr
  aFIRST_TEXT : Addr
  aCALLS : Addr
  aROW_CALLS : Addr
  aGIVEN_COUNTS : Addr
  f_answer_cave : Addr
  f_answer_hold : Addr
  f_answer_frame : Addr
  f_answer_speed : Addr
  f_answer_save : Addr
  f_answer_load : Addr
  f_answer_shows : Addr
  f_answer_place : Addr
  f_answer_seen : Addr
  f_answer_back : Addr
  f_answer_keys : Addr
  f_answer_play : Addr
  f_answer_counts : Addr
  f_answer_differ : Addr
/-- what the top has written -/
structure Txt (K : PySem.W.Frag) (mg : Str → Option Value) (a : Ad) : Prop where
  g_NOTHING : ∃ u, mg "NOTHING" = some u ∧ RelV (.int 0) u
  g_EARTH : ∃ u, mg "EARTH" = some u ∧ RelV (.int 1) u
  g_WALL : ∃ u, mg "WALL" = some u ∧ RelV (.int 2) u
  g_LYING_STONE : ∃ u, mg "LYING_STONE" = some u ∧ RelV (.int 3) u
  g_FALLING_STONE : ∃ u, mg "FALLING_STONE" = some u ∧ RelV (.int 4) u
  g_LYING_GEM : ∃ u, mg "LYING_GEM" = some u ∧ RelV (.int 5) u
  g_FALLING_GEM : ∃ u, mg "FALLING_GEM" = some u ∧ RelV (.int 6) u
  g_PLAYER : ∃ u, mg "PLAYER" = some u ∧ RelV (.int 7) u
  g_MONSTER_RIGHT : ∃ u, mg "MONSTER_RIGHT" = some u ∧ RelV (.int 8) u
  g_MONSTER_UP : ∃ u, mg "MONSTER_UP" = some u ∧ RelV (.int 11) u
  g_WAY_OUT : ∃ u, mg "WAY_OUT" = some u ∧ RelV (.int 12) u
  g_BYTES : ∃ u, mg "BYTES" = some u ∧ RelV (.ref a.aBYTES) u
  q_BYTES : ∀ H, SqT K H a.aBYTES ([32, 58, 35, 111, 79, 42, 43, 64, 62, 118, 60, 94, 69].map U.iv)
  g_ROW_END : ∃ u, mg "ROW_END" = some u ∧ RelV (.int 10) u
  g_MOST_IN_A_ROW : ∃ u, mg "MOST_IN_A_ROW" = some u ∧ RelV (.int 20) u
  g_MOST_ROWS : ∃ u, mg "MOST_ROWS" = some u ∧ RelV (.int 14) u
  g_STRANGE_BYTE : ∃ u, mg "STRANGE_BYTE" = some u ∧ RelV (.int 1) u
  g_UNEVEN_ROWS : ∃ u, mg "UNEVEN_ROWS" = some u ∧ RelV (.int 2) u
  g_WRONG_SIZE : ∃ u, mg "WRONG_SIZE" = some u ∧ RelV (.int 3) u
  g_NOT_ONE_PLAYER : ∃ u, mg "NOT_ONE_PLAYER" = some u ∧ RelV (.int 4) u
  g_GOES_ON : ∃ u, mg "GOES_ON" = some u ∧ RelV (.int 0) u
  g_WON : ∃ u, mg "WON" = some u ∧ RelV (.int 1) u
  g_LOST : ∃ u, mg "LOST" = some u ∧ RelV (.int 2) u
  g_RIGHT : ∃ u, mg "RIGHT" = some u ∧ RelV (.int 0) u
  g_DOWN : ∃ u, mg "DOWN" = some u ∧ RelV (.int 1) u
  g_LEFT : ∃ u, mg "LEFT" = some u ∧ RelV (.int 2) u
  g_POINTS_FOR_GEM : ∃ u, mg "POINTS_FOR_GEM" = some u ∧ RelV (.int 10) u
  g_POINTS_FOR_MONSTER : ∃ u, mg "POINTS_FOR_MONSTER" = some u ∧ RelV (.int 20) u
  g_POINTS_FOR_WAY_OUT : ∃ u, mg "POINTS_FOR_WAY_OUT" = some u ∧ RelV (.int 100) u
  g_FIRST_TEXT : ∃ u, mg "FIRST_TEXT" = some u ∧ RelV (.ref a.aFIRST_TEXT) u
  q_FIRST_TEXT : ∀ H, SqT K H a.aFIRST_TEXT ([35, 35, 35, 10, 35, 64, 35, 10, 35, 35, 35, 10].map U.iv)
  g_FIRST_TICK_PARTS : ∃ u, mg "FIRST_TICK_PARTS" = some u ∧ RelV (.int 10) u
  g_MOST_BYTES : ∃ u, mg "MOST_BYTES" = some u ∧ RelV (.int 300) u
  g_MOST_BYTE : ∃ u, mg "MOST_BYTE" = some u ∧ RelV (.int 255) u
  g_MOST_KEY : ∃ u, mg "MOST_KEY" = some u ∧ RelV (.int 4) u
  g_MOST_FRAME_PARTS : ∃ u, mg "MOST_FRAME_PARTS" = some u ∧ RelV (.int 1000) u
  g_MOST_TICK_PARTS : ∃ u, mg "MOST_TICK_PARTS" = some u ∧ RelV (.int 100) u
  g_MOST_TICKS : ∃ u, mg "MOST_TICKS" = some u ∧ RelV (.int 400) u
  g_MOST_PRESSED : ∃ u, mg "MOST_PRESSED" = some u ∧ RelV (.int 100) u
  g_LAST_WHERE : ∃ u, mg "LAST_WHERE" = some u ∧ RelV (.int 9) u
  g_BEYOND_BOUNDS : ∃ u, mg "BEYOND_BOUNDS" = some u ∧ RelV (.int 1) u
  g_NOT_THERE : ∃ u, mg "NOT_THERE" = some u ∧ RelV (.int 2) u
  g_TOO_MANY_TICKS : ∃ u, mg "TOO_MANY_TICKS" = some u ∧ RelV (.int 5) u
  g_ALIKE : ∃ u, mg "ALIKE" = some u ∧ RelV (.int 6) u
  g_FAULT : ∃ u, mg "FAULT" = some u ∧ RelV (.int 10) u
  g_CALLS : ∃ u, mg "CALLS" = some u ∧ RelV (.ref a.aCALLS) u
  q_CALLS : ∀ H, SqT K H a.aCALLS [.ref a.f_answer_cave, .ref a.f_answer_hold, .ref a.f_answer_frame, .ref a.f_answer_speed, .ref a.f_answer_save, .ref a.f_answer_load, .ref a.f_answer_shows, .ref a.f_answer_place, .ref a.f_answer_seen, .ref a.f_answer_back, .ref a.f_answer_keys, .ref a.f_answer_play, .ref a.f_answer_counts, .ref a.f_answer_differ]
  g_ROW_CALLS : ∃ u, mg "ROW_CALLS" = some u ∧ RelV (.ref a.aROW_CALLS) u
  q_ROW_CALLS : ∀ H, SqT K H a.aROW_CALLS ([0, 11].map U.iv)
  g_GIVEN_COUNTS : ∃ u, mg "GIVEN_COUNTS" = some u ∧ RelV (.ref a.aGIVEN_COUNTS) u
  q_GIVEN_COUNTS : U.KInt K a.aGIVEN_COUNTS [(1, 1), (2, 1), (3, 1), (4, 1), (5, 1), (6, 0), (7, 2), (8, 1), (9, 1), (10, 0), (12, 0), (13, 1)]
  n_any : mg "any" = none
  n_enumerate : mg "enumerate" = none
  n_len : mg "len" = none
  n_list : mg "list" = none
  n_min : mg "min" = none
  n_range : mg "range" = none
  k_Cave : U.Ck K a.cCave ["wide", "high", "places"]
  d_Cave : U.Mkd K mg "Cave" "Cave.__init__" a.cCave s_Cave_init ["self", "wide", "high", "places"]
  k_Standing : U.Ck K a.cStanding ["cave", "outcome", "points"]
  d_Standing : U.Mkd K mg "Standing" "Standing.__init__" a.cStanding s_Standing_init ["self", "cave"]
  k_Tick : U.Ck K a.cTick ["standing", "places", "steps_to", "key", "had_turn"]
  d_Tick : U.Mkd K mg "Tick" "Tick.__init__" a.cTick s_Tick_init ["self", "standing", "key"]
  k_Game : U.Ck K a.cGame ["stood", "pressed", "left_over", "tick_parts", "held"]
  d_Game : U.Mkd K mg "Game" "Game.__init__" a.cGame s_Game_init ["self", "cave", "tick_parts"]
  k_Session : U.Ck K a.cSession ["game", "kept"]
  d_Session : U.Mkd K mg "Session" "Session.__init__" a.cSession s_Session_init ["self"]
  m_answer_cave : mg "answer_cave" = some (.ref a.f_answer_cave)
  m_answer_hold : mg "answer_hold" = some (.ref a.f_answer_hold)
  m_answer_frame : mg "answer_frame" = some (.ref a.f_answer_frame)
  m_answer_speed : mg "answer_speed" = some (.ref a.f_answer_speed)
  m_answer_save : mg "answer_save" = some (.ref a.f_answer_save)
  m_answer_load : mg "answer_load" = some (.ref a.f_answer_load)
  m_answer_shows : mg "answer_shows" = some (.ref a.f_answer_shows)
  m_answer_place : mg "answer_place" = some (.ref a.f_answer_place)
  m_answer_seen : mg "answer_seen" = some (.ref a.f_answer_seen)
  m_answer_back : mg "answer_back" = some (.ref a.f_answer_back)
  m_answer_keys : mg "answer_keys" = some (.ref a.f_answer_keys)
  m_answer_play : mg "answer_play" = some (.ref a.f_answer_play)
  m_answer_counts : mg "answer_counts" = some (.ref a.f_answer_counts)
  m_answer_differ : mg "answer_differ" = some (.ref a.f_answer_differ)
  d_is_known_byte : U.Dd K mg "is_known_byte" s_is_known_byte ["byte"]
  d_byte_of : U.Dd K mg "byte_of" s_byte_of ["thing"]
  d_thing_of : U.Dd K mg "thing_of" s_thing_of ["byte"]
  d_count_kinds : U.Dd K mg "count_kinds" s_count_kinds []
  d_is_lying : U.Dd K mg "is_lying" s_is_lying ["thing"]
  d_is_falling : U.Dd K mg "is_falling" s_is_falling ["thing"]
  d_is_gem : U.Dd K mg "is_gem" s_is_gem ["thing"]
  d_is_monster : U.Dd K mg "is_monster" s_is_monster ["thing"]
  d_lying : U.Dd K mg "lying" s_lying ["thing"]
  d_falling : U.Dd K mg "falling" s_falling ["thing"]
  d_stride : U.Dd K mg "stride" s_stride ["cave"]
  d_steps : U.Dd K mg "steps" s_steps ["cave"]
  d_row_begin : U.Dd K mg "row_begin" s_row_begin ["cave", "down"]
  d_row_of : U.Dd K mg "row_of" s_row_of ["cave", "down"]
  d_is_within : U.Dd K mg "is_within" s_is_within ["cave", "across", "down"]
  d_thing_at : U.Dd K mg "thing_at" s_thing_at ["cave", "across", "down"]
  d_copy_cave : U.Dd K mg "copy_cave" s_copy_cave ["cave"]
  d_are_same_caves : U.Dd K mg "are_same_caves" s_are_same_caves ["cave", "other"]
  d_count_gems : U.Dd K mg "count_gems" s_count_gems ["cave"]
  d_count_things : U.Dd K mg "count_things" s_count_things ["cave"]
  d_split_rows : U.Dd K mg "split_rows" s_split_rows ["text"]
  d_has_strange_byte : U.Dd K mg "has_strange_byte" s_has_strange_byte ["text"]
  d_has_uneven_rows : U.Dd K mg "has_uneven_rows" s_has_uneven_rows ["rows"]
  d_has_wrong_size : U.Dd K mg "has_wrong_size" s_has_wrong_size ["rows"]
  d_find_fault : U.Dd K mg "find_fault" s_find_fault ["text"]
  d_read_cave : U.Dd K mg "read_cave" s_read_cave ["text"]
  d_write_cave : U.Dd K mg "write_cave" s_write_cave ["cave"]
  d_copy_standing : U.Dd K mg "copy_standing" s_copy_standing ["standing"]
  d_stand_alike : U.Dd K mg "stand_alike" s_stand_alike ["standing", "other"]
  d_is_over : U.Dd K mg "is_over" s_is_over ["standing"]
  d_run_tick : U.Dd K mg "run_tick" s_run_tick ["standing", "key"]
  d_take_turn : U.Dd K mg "take_turn" s_take_turn ["tick", "place"]
  d_go : U.Dd K mg "go" s_go ["tick", "place", "there", "thing"]
  d_end : U.Dd K mg "end" s_end ["tick", "outcome"]
  d_score : U.Dd K mg "score" s_score ["tick", "points"]
  d_turn_player : U.Dd K mg "turn_player" s_turn_player ["tick", "place"]
  d_push : U.Dd K mg "push" s_push ["tick", "place", "way"]
  d_turn_loose : U.Dd K mg "turn_loose" s_turn_loose ["tick", "place"]
  d_hit_monster : U.Dd K mg "hit_monster" s_hit_monster ["tick", "place", "there"]
  d_roll : U.Dd K mg "roll" s_roll ["tick", "place"]
  d_turn_monster : U.Dd K mg "turn_monster" s_turn_monster ["tick", "place"]
  d_copy_game : U.Dd K mg "copy_game" s_copy_game ["game"]
  d_count_ticks : U.Dd K mg "count_ticks" s_count_ticks ["game"]
  d_standing_behind : U.Dd K mg "standing_behind" s_standing_behind ["game", "ticks"]
  d_standing_now : U.Dd K mg "standing_now" s_standing_now ["game"]
  d_how_it_stood : U.Dd K mg "how_it_stood" s_how_it_stood ["game", "ticks"]
  d_how_it_stands : U.Dd K mg "how_it_stands" s_how_it_stands ["game"]
  d_press : U.Dd K mg "press" s_press ["game", "key"]
  d_go_back : U.Dd K mg "go_back" s_go_back ["game", "ticks"]
  d_find_parting : U.Dd K mg "find_parting" s_find_parting ["game", "other"]
  d_cave_now : U.Dd K mg "cave_now" s_cave_now ["session"]
  d_refuse : U.Dd K mg "refuse" s_refuse ["number"]
  d_answer_cave : U.Dd K mg "answer_cave" s_answer_cave ["session", "text"]
  d_answer_hold : U.Dd K mg "answer_hold" s_answer_hold ["session", "given"]
  d_are_too_many : U.Dd K mg "are_too_many" s_are_too_many ["game", "ticks"]
  d_answer_frame : U.Dd K mg "answer_frame" s_answer_frame ["session", "given"]
  d_answer_speed : U.Dd K mg "answer_speed" s_answer_speed ["session", "given"]
  d_answer_save : U.Dd K mg "answer_save" s_answer_save ["session", "given"]
  d_answer_load : U.Dd K mg "answer_load" s_answer_load ["session", "given"]
  d_counted_text : U.Dd K mg "counted_text" s_counted_text ["cave"]
  d_answer_shows : U.Dd K mg "answer_shows" s_answer_shows ["session", "given"]
  d_answer_place : U.Dd K mg "answer_place" s_answer_place ["session", "given"]
  d_answer_seen : U.Dd K mg "answer_seen" s_answer_seen ["session", "given"]
  d_answer_back : U.Dd K mg "answer_back" s_answer_back ["session", "given"]
  d_answer_keys : U.Dd K mg "answer_keys" s_answer_keys ["session", "given"]
  d_answer_play : U.Dd K mg "answer_play" s_answer_play ["session", "pressed"]
  d_answer_counts : U.Dd K mg "answer_counts" s_answer_counts ["session", "given"]
  d_answer_differ : U.Dd K mg "answer_differ" s_answer_differ ["session", "given"]
  d_answer_call : U.Dd K mg "answer_call" s_answer_call ["session", "number", "given"]
  d_given_begin : U.Dd K mg "given_begin" s_given_begin ["calls", "at"]
  d_given_end : U.Dd K mg "given_end" s_given_end ["calls", "at"]
  d_answers : U.Dd K mg "answers" s_answers ["calls"]
end G

set_option Elab.async false
set_option linter.all false
set_option maxRecDepth 100000
set_option maxHeartbeats 4000000
namespace G
open PySem PySem.Spec PyProof.Rows L2
open Ge13 (at_ put gems beside cellTo Marks goTo playerTurn stoneTurn monsterTurn)
open Gm
open U

def thg (g : Int → Bool) : Sp := fun vs H Q _ => ∃ n : Int, vs = [.int n] ∧ Q (.bl (g n)) H
def thn (g : Int → Int) : Sp := fun vs H Q _ => ∃ n : Int, vs = [.int n] ∧ Q (.int (g n)) H
def isLying (n : Int) : Bool := decide (n = 3) || decide (n = 5)
def isFalling (n : Int) : Bool := decide (n = 4) || decide (n = 6)
def isGem (n : Int) : Bool := decide (n = 5) || decide (n = 6)
def isMonster (n : Int) : Bool := decide (8 ≤ n) && decide (n ≤ 11)
def lyingOf (n : Int) : Int := if isGem n = true then 5 else 3
def fallingOf (n : Int) : Int := if isGem n = true then 6 else 4
def isKnown (n : Int) : Bool := inV (.int n) (Ge13.signs.map iv)
theorem gv_g {g : Int → Bool} {n : Int} {H : Hp} : Gv (thg g) ([.int n] ++ []) H (.bl (g n)) := fun Q E q => ⟨n, rfl, q⟩
theorem gv_n {g : Int → Int} {n : Int} {H : Hp} : Gv (thn g) ([.int n] ++ []) H (.int (g n)) := fun Q E q => ⟨n, rfl, q⟩
theorem is_g {σ : L2.St} {H : Hp} {te : TE} {g : Int → Bool} {n : Int} {E : XK} (h : Is te σ H (.int n)) : Is (tCall (thg g) [] E (tCons te tNil)) σ H (.bl (g n)) := is_call (isA_cons h isA_nil) gv_g
theorem is_n {σ : L2.St} {H : Hp} {te : TE} {g : Int → Int} {n : Int} {E : XK} (h : Is te σ H (.int n)) : Is (tCall (thn g) [] E (tCons te tNil)) σ H (.int (g n)) := is_call (isA_cons h isA_nil) gv_n
theorem signs_flat : (Ge13.signs.map iv).all flatV = true := by decide
section
variable {P : Program} {w : World} {K : PySem.W.Frag} {mg : Str → Option Value} {base : Heap} {a : Ad} (T : Txt K mg a)
include T

theorem c_is_lying : C8.Cal P w K mg base 1 "is_lying" (thg isLying) [] := by
  obtain ⟨f, fd, F, b⟩ := T.d_is_lying
  refine C8.cal0 F b .nil sc_is_lying (fun vs H Q E h => ?len) (fun cdv A0 outer s H vs Q E hr h => ⟨_, (pss_one (ps_ret (pe_or (pe_cmpR op_eq (pv 0) (C8.pe_gc (by rfl) T.g_LYING_STONE) (nomark _)) (pe_one (pe_cmpR op_eq (pv 0) (C8.pe_gc (by rfl) T.g_LYING_GEM) (nomark _)))))), ?rd⟩)
  case len => obtain ⟨n, rfl, _⟩ := h; rfl
  case rd =>
    obtain ⟨n, rfl, k⟩ := h
    exact s_ret (is_or (is_eqI (is_var rfl) is_c) fun _ => is_eqI (is_var rfl) is_c) k
theorem c_is_falling : C8.Cal P w K mg base 1 "is_falling" (thg isFalling) [] := by
  obtain ⟨f, fd, F, b⟩ := T.d_is_falling
  refine C8.cal0 F b .nil sc_is_falling (fun vs H Q E h => ?len) (fun cdv A0 outer s H vs Q E hr h => ⟨_, (pss_one (ps_ret (pe_or (pe_cmpR op_eq (pv 0) (C8.pe_gc (by rfl) T.g_FALLING_STONE) (nomark _)) (pe_one (pe_cmpR op_eq (pv 0) (C8.pe_gc (by rfl) T.g_FALLING_GEM) (nomark _)))))), ?rd⟩)
  case len => obtain ⟨n, rfl, _⟩ := h; rfl
  case rd =>
    obtain ⟨n, rfl, k⟩ := h
    exact s_ret (is_or (is_eqI (is_var rfl) is_c) fun _ => is_eqI (is_var rfl) is_c) k
theorem c_is_gem : C8.Cal P w K mg base 1 "is_gem" (thg isGem) [] := by
  obtain ⟨f, fd, F, b⟩ := T.d_is_gem
  refine C8.cal0 F b .nil sc_is_gem (fun vs H Q E h => ?len) (fun cdv A0 outer s H vs Q E hr h => ⟨_, (pss_one (ps_ret (pe_or (pe_cmpR op_eq (pv 0) (C8.pe_gc (by rfl) T.g_LYING_GEM) (nomark _)) (pe_one (pe_cmpR op_eq (pv 0) (C8.pe_gc (by rfl) T.g_FALLING_GEM) (nomark _)))))), ?rd⟩)
  case len => obtain ⟨n, rfl, _⟩ := h; rfl
  case rd =>
    obtain ⟨n, rfl, k⟩ := h
    exact s_ret (is_or (is_eqI (is_var rfl) is_c) fun _ => is_eqI (is_var rfl) is_c) k
theorem c_is_monster : C8.Cal P w K mg base 1 "is_monster" (thg isMonster) [] := by
  obtain ⟨f, fd, F, b⟩ := T.d_is_monster
  refine C8.cal0 F b .nil sc_is_monster (fun vs H Q E h => ?len) (fun cdv A0 outer s H vs Q E hr h => ⟨_, (pss_one (ps_ret (pe_chain op_le op_le (C8.pe_gc (by rfl) T.g_MONSTER_RIGHT) (pv 0) (C8.pe_gc (by rfl) T.g_MONSTER_UP)))), ?rd⟩)
  case len => obtain ⟨n, rfl, _⟩ := h; rfl
  case rd =>
    obtain ⟨n, rfl, k⟩ := h
    exact s_ret (is_chain is_c (is_var rfl) is_c rfl rfl) k
theorem c_lying : C8.Cal P w K mg base 2 "lying" (thn lyingOf) [] := by
  obtain ⟨f, fd, F, b⟩ := T.d_lying
  refine C8.cal0 F b .nil sc_lying (fun vs H Q E h => ?len) (fun cdv A0 outer s H vs Q E hr h => ⟨_, (pss_one (ps_ret (pe_ifExp (pt_val (C8.pe_c (c_is_gem T) hr (by decide) (by rfl) (pa_cons (pv 0) pa_nil))) (C8.pe_gc (by rfl) T.g_LYING_GEM) (C8.pe_gc (by rfl) T.g_LYING_STONE)))), ?rd⟩)
  case len => obtain ⟨n, rfl, _⟩ := h; rfl
  case rd =>
    obtain ⟨n, rfl, k⟩ := h
    refine s_ret (v := .int (lyingOf n)) ?_ k
    by_cases c : isGem n = true
    · rw [show lyingOf n = 5 from if_pos c]
      exact is_if (isT_v (is_call (isA_cons (is_var rfl) isA_nil) gv_g)) (fun _ => is_c) fun e => absurd (e.symm.trans c) (by decide)
    · rw [show lyingOf n = 3 from if_neg c]
      exact is_if (isT_v (is_call (isA_cons (is_var rfl) isA_nil) gv_g)) (fun e => absurd e c) fun _ => is_c
theorem c_falling : C8.Cal P w K mg base 2 "falling" (thn fallingOf) [] := by
  obtain ⟨f, fd, F, b⟩ := T.d_falling
  refine C8.cal0 F b .nil sc_falling (fun vs H Q E h => ?len) (fun cdv A0 outer s H vs Q E hr h => ⟨_, (pss_one (ps_ret (pe_ifExp (pt_val (C8.pe_c (c_is_gem T) hr (by decide) (by rfl) (pa_cons (pv 0) pa_nil))) (C8.pe_gc (by rfl) T.g_FALLING_GEM) (C8.pe_gc (by rfl) T.g_FALLING_STONE)))), ?rd⟩)
  case len => obtain ⟨n, rfl, _⟩ := h; rfl
  case rd =>
    obtain ⟨n, rfl, k⟩ := h
    refine s_ret (v := .int (fallingOf n)) ?_ k
    by_cases c : isGem n = true
    · rw [show fallingOf n = 6 from if_pos c]
      exact is_if (isT_v (is_call (isA_cons (is_var rfl) isA_nil) gv_g)) (fun _ => is_c) fun e => absurd (e.symm.trans c) (by decide)
    · rw [show fallingOf n = 4 from if_neg c]
      exact is_if (isT_v (is_call (isA_cons (is_var rfl) isA_nil) gv_g)) (fun e => absurd e c) fun _ => is_c
theorem c_is_known_byte : C8.Cal P w K mg base 1 "is_known_byte" (thg isKnown) [] := by
  obtain ⟨f, fd, F, b⟩ := T.d_is_known_byte
  refine C8.cal0 F b .nil sc_is_known_byte (fun vs H Q E h => ?len) (fun cdv A0 outer s H vs Q E hr h => ⟨_, (pss_one (ps_ret (pe_cmpR op_in_seq (pv 0) (C8.pe_gc (by rfl) T.g_BYTES) (by rfl)))), ?rd⟩)
  case len => obtain ⟨n, rfl, _⟩ := h; rfl
  case rd =>
    obtain ⟨n, rfl, k⟩ := h
    exact s_ret (is_inT (is_var rfl) is_c (T.q_BYTES H) rfl signs_flat) k
def spByteOf : Sp := fun vs H Q _ => ∃ n : Nat, vs = [iv n] ∧ n < 13 ∧ Q (iv (Ge13.signs.getD n 32)) H
theorem c_byte_of : C8.Cal P w K mg base 1 "byte_of" (spByteOf) [] := by
  obtain ⟨f, fd, F, b⟩ := T.d_byte_of
  refine C8.cal0 F b .nil sc_byte_of (fun vs H Q E h => ?len) (fun cdv A0 outer s H vs Q E hr h => ⟨_, (pss_one (ps_ret (pe_ix ix_tup (C8.pe_gc (by rfl) T.g_BYTES) (pv 0) (fun _ _ => rfl)))), ?rd⟩)
  case len => obtain ⟨n, rfl, _⟩ := h; rfl
  case rd =>
    obtain ⟨n, rfl, hn, k⟩ := h
    refine s_ret (is_ixT is_c (is_var rfl) (T.q_BYTES H) (at_iv ?_)) k
    match n, hn with
    | 0, _ | 1, _ | 2, _ | 3, _ | 4, _ | 5, _ | 6, _ | 7, _ | 8, _ | 9, _ | 10, _ | 11, _ | 12, _ => rfl
def spKinds : Sp := fun vs H Q _ => vs = [] ∧ Q (iv 13) H
theorem c_count_kinds : C8.Cal P w K mg base 1 "count_kinds" (spKinds) [] := by
  obtain ⟨f, fd, F, b⟩ := T.d_count_kinds
  refine C8.cal0 F b .nil sc_count_kinds (fun vs H Q E h => ?len) (fun cdv A0 outer s H vs Q E hr h => ⟨_, (pss_one (ps_ret (pe_callB call_len_seq (by rfl) T.n_len (by decide +kernel) (pa_cons (C8.pe_gc (by rfl) T.g_BYTES) pa_nil)))), ?rd⟩)
  case len => obtain ⟨rfl, _⟩ := h; rfl
  case rd =>
    obtain ⟨rfl, k⟩ := h
    exact s_ret (is_cb (isA_cons is_c isA_nil) fun Q' q => ⟨a.aBYTES, _, rfl, .inr (T.q_BYTES H), q⟩) k
end
end G

set_option Elab.async false
set_option linter.all false
set_option maxRecDepth 100000
set_option maxHeartbeats 4000000
namespace G
open PySem PySem.Spec PyProof.Rows L2
open Ge13 (at_ put gems beside cellTo Marks goTo playerTurn stoneTurn monsterTurn)
open Gm
open U

/-! ### how the objects lie -/
def cavF (w h : Nat) (p : Addr) : List (Str × V) := [("wide", iv w), ("high", iv h), ("places", .ref p)]
def stdF (cv : Addr) (o p : Nat) : List (Str × V) := [("cave", .ref cv), ("outcome", iv o), ("points", iv p)]
def tckF (st pl tp d : Addr) (key : Nat) : List (Str × V) := [("standing", .ref st), ("places", .ref pl), ("steps_to", .ref tp), ("key", iv key), ("had_turn", .ref d)]
theorem l_wide {w h p} : (cavF w h p).lookup ("wide" : Str) = some (iv w) := by rfl
theorem l_high {w h p} : (cavF w h p).lookup ("high" : Str) = some (iv h) := by rfl
theorem l_places {w h p} : (cavF w h p).lookup ("places" : Str) = some (.ref p) := by rfl
theorem l_cave {c o p} : (stdF c o p).lookup ("cave" : Str) = some (.ref c) := by rfl
theorem l_outcome {c o p} : (stdF c o p).lookup ("outcome" : Str) = some (iv o) := by rfl
theorem l_points {c o p} : (stdF c o p).lookup ("points" : Str) = some (iv p) := by rfl
theorem l_standing {st pl tp d key} : (tckF st pl tp d key).lookup ("standing" : Str) = some (.ref st) := by rfl
theorem l_tplaces {st pl tp d key} : (tckF st pl tp d key).lookup ("places" : Str) = some (.ref pl) := by rfl
theorem l_steps {st pl tp d key} : (tckF st pl tp d key).lookup ("steps_to" : Str) = some (.ref tp) := by rfl
theorem l_key {st pl tp d key} : (tckF st pl tp d key).lookup ("key" : Str) = some (iv key) := by rfl
theorem l_had {st pl tp d key} : (tckF st pl tp d key).lookup ("had_turn" : Str) = some (.ref d) := by rfl
theorem p_outcome {c o p n} : putF "outcome" (iv n) (stdF c o p) = stdF c n p := by rfl
theorem p_points {c o p n} : putF "points" (iv n) (stdF c o p) = stdF c o n := by rfl

theorem lk_ne {fs gs : List (Str × V)} {C C' dx dx' : Addr} (f : Str) (h : fs.lookup f = none) {v : V} (h' : gs.lookup f = some v) : HO.ins C dx fs ≠ HO.ins C' dx' gs := fun e => by
  have e2 : fs = gs := by injection e
  rw [e2, h'] at h
  cases h
theorem std_cav {C C' dx dx' : Addr} {c : Addr} {o p w h : Nat} {q : Addr} : HO.ins C dx (stdF c o p) ≠ HO.ins C' dx' (cavF w h q) := lk_ne "wide" rfl l_wide
theorem tck_std {C C' dx dx' : Addr} {st pl tp d : Addr} {key : Nat} {c : Addr} {o p : Nat} : HO.ins C dx (tckF st pl tp d key) ≠ HO.ins C' dx' (stdF c o p) := lk_ne "cave" rfl l_cave
/-- where a tick's parts lie -/
structure TA where
  t : Addr
  st : Addr
  cv : Addr
  pl : Addr
  tp : Addr
  d : Addr
def stepsW (w : Nat) : List V := [.int 1, .int ((w : Int) + 2), .int (-1), .int (-((w : Int) + 2))]
def stepsV (c : Ge13.Cave) : List V := stepsW c.w
def plc (c : Ge13.Cave) : List V := (rim c).map iv
/-- the dict of those that had their turn -/
def Mks (c : Ge13.Cave) (m : Marks) (kvs : List (Key × V)) : Prop := kvs.length ≤ m.length ∧ ∀ x y, x < c.w → y < c.h → (valV kvs (.inl ((pos c x y : Nat) : Int))).isSome = m.contains (x, y)
structure TickAt (K : PySem.W.Frag) (a : Ad) (A : TA) (key : Nat) (H : Hp) (c : Ge13.Cave) (m : Marks) : Prop where
  t : Ob K H A.t a.cTick (tckF A.st A.pl A.tp A.d key)
  st : Ob K H A.st a.cStanding (stdF A.cv c.over c.points)
  cv : Ob K H A.cv a.cCave (cavF c.w c.h A.pl)
  pl : H A.pl = some (.lst (plc c))
  tp : H A.tp = some (.tup (stepsV c))
  d : ∃ kvs, H A.d = some (.dK kvs) ∧ Mks c m kvs
  wf : Wf c
/-- all but the tick's own parts stands -/
def Fr (A : TA) (H H' : Hp) : Prop := ∀ b o, H b = some o → b ≠ A.st → b ≠ A.pl → b ≠ A.d → H' b = some o
theorem Fr.refl {A : TA} (H : Hp) : Fr A H H := fun _ _ h _ _ _ => h
theorem Fr.trans {A : TA} {H H1 H2 : Hp} (p : Fr A H H1) (q : Fr A H1 H2) : Fr A H H2 := fun b o h h1 h2 h3 => q b o (p b o h h1 h2 h3) h1 h2 h3
theorem Fr.pl {A : TA} {H : Hp} {o : HO} : Fr A H (upd H A.pl o) := fun b u h _ h2 _ => by rw [upd_ne h2]; exact h
theorem Fr.st {A : TA} {H : Hp} {o : HO} : Fr A H (upd H A.st o) := fun b u h h2 _ _ => by rw [upd_ne h2]; exact h
theorem Fr.d {A : TA} {H : Hp} {o : HO} : Fr A H (upd H A.d o) := fun b u h _ _ h2 => by rw [upd_ne h2]; exact h
theorem ob_ne {K : PySem.W.Frag} {H : Hp} {p C q : Addr} {fs : List (Str × V)} {o u : HO} (h : Ob K H p C fs) (h' : H q = some o) (hd : ∀ dx, HO.ins C dx fs ≠ o) : Ob K (upd H q u) p C fs := by
  obtain ⟨dx, e⟩ := h
  exact ⟨dx, by rw [upd_ne (ne_of e h' (hd dx))]; exact e⟩
section
variable {K : PySem.W.Frag} {a : Ad} {A : TA} {key : Nat} {H : Hp} {c : Ge13.Cave} {m : Marks}
theorem TickAt.put (h : TickAt K a A key H c m) {x y v : Nat} (hx : x < c.w) (hy : y < c.h) (hv : v ≤ 12) : TickAt K a A key (upd H A.pl (.lst ((plc c).set (pos c x y) (iv v)))) (put c x y v) m where
  t := ob_ne h.t h.pl fun _ z => by cases z
  st := ob_ne h.st h.pl fun _ z => by cases z
  cv := ob_ne h.cv h.pl fun _ z => by cases z
  pl := by rw [upd_same, plc, plc, rim_put h.wf.len v hx hy, List.map_set]
  tp := by rw [upd_ne (ne_of h.tp h.pl fun z => by cases z)]; exact h.tp
  d := by
    obtain ⟨kvs, e, k⟩ := h.d
    exact ⟨kvs, by rw [upd_ne (ne_of e h.pl fun z => by cases z)]; exact e, k⟩
  wf := h.wf.put x y hv
theorem plc_same {c c' : Ge13.Cave} (e1 : c'.w = c.w) (e2 : c'.h = c.h) (e3 : c'.cells = c.cells) : plc c' = plc c := by rw [plc, rim_same e1 e2 e3]; rfl
theorem TickAt.out (h : TickAt K a A key H c m) (o p : Nat) (dx : Addr) : TickAt K a A key (upd H A.st (.ins a.cStanding dx (stdF A.cv o p))) { c with over := o, points := p } m := by
  obtain ⟨dx0, e0⟩ := h.st
  exact {
    t := ob_ne h.t e0 fun _ => tck_std
    st := ⟨dx, upd_same⟩
    cv := ob_ne h.cv e0 fun _ z => std_cav z.symm
    pl := by rw [upd_ne (ne_of h.pl e0 fun z => by cases z), plc_same (c := c) (c' := { c with over := o, points := p }) rfl rfl rfl]; exact h.pl
    tp := by rw [upd_ne (ne_of h.tp e0 fun z => by cases z)]; exact h.tp
    d := by
      obtain ⟨kvs, e, k⟩ := h.d
      exact ⟨kvs, by rw [upd_ne (ne_of e e0 fun z => by cases z)]; exact e, k⟩
    wf := h.wf.same rfl rfl rfl }
theorem TickAt.mark (h : TickAt K a A key H c m) {kvs : List (Key × V)} (hd : H A.d = some (.dK kvs)) (hk : Mks c m kvs) {x y : Nat} (hx : x < c.w) :
    TickAt K a A key (upd H A.d (.dK (putK kvs (.inl ((pos c x y : Nat) : Int)) (.bl true)))) c ((x, y) :: m) where
  t := ob_ne h.t hd fun _ z => by cases z
  st := ob_ne h.st hd fun _ z => by cases z
  cv := ob_ne h.cv hd fun _ z => by cases z
  pl := by rw [upd_ne (ne_of h.pl hd fun z => by cases z)]; exact h.pl
  tp := by rw [upd_ne (ne_of h.tp hd fun z => by cases z)]; exact h.tp
  d := by
    refine ⟨_, upd_same, ?_, fun x' y' hx' hy' => ?_⟩
    · have := length_putK kvs (.inl ((pos c x y : Nat) : Int)) (V.bl true)
      have := hk.1
      rw [List.length_cons]
      omega
    · rw [valV_put, List.contains_cons]
      by_cases e : (x', y') = (x, y)
      · injection e with e1 e2
        subst e1 e2
        rw [if_pos rfl]
        simp
      · have ne : ¬ ((Sum.inl ((pos c x' y' : Nat) : Int) : Key) = .inl ((pos c x y : Nat) : Int)) := fun z => by
          injection z with z
          obtain ⟨z1, z2⟩ := pos_inj (c := c) (x := x') (y := y') (x' := x) (y' := y) (by omega) (by omega) (by omega)
          exact e (by rw [z1, z2])
        have e2 : ((x', y') == (x, y)) = false := beq_eq_false_iff_ne.mpr e
        rw [if_neg ne, hk.2 x' y' hx' hy', e2, Bool.false_or]
  wf := h.wf
theorem is_to {te : TE} {σ : L2.St} {i j : Int} (h : Is te σ H (.int i)) (e : i = j) : Is te σ H (.int j) := by rw [← e]; exact h
theorem TickAt.plen (h : TickAt K a A key H c m) : (plc c).length = (c.h + 2) * (c.w + 2) := by rw [plc, List.length_map, rim_len]
theorem TickAt.ix (h : TickAt K a A key H c m) {x y : Nat} (hx : x < c.w) (hy : y < c.h) : ixN (plc c).length (((pos c x y : Nat)) : Int) = some (pos c x y) := ixN_nat (by rw [h.plen]; exact pos_lt c (by omega) (by omega))
theorem TickAt.at_ (h : TickAt K a A key H c m) {x y : Nat} (hx : x ≤ c.w) (hy : y ≤ c.h) : atI (plc c) (((pos c x y : Nat)) : Int) = some (iv (Ge13.at_ c x y)) := at_iv (rim_pos c hx hy)
theorem TickAt.to (h : TickAt K a A key H c m) {x y d : Nat} (hx : x < c.w) (hy : y < c.h) : atI (plc c) (((posTo c x y d : Nat)) : Int) = some (iv (Ge13.cellTo c x y d)) := at_iv (rim_beside c hx hy)
theorem steps_at {d : Nat} (hd : d < 4) : atI (stepsV c) ((d : Nat) : Int) = some (.int (Gm.step c d)) := by
  match d, hd with
  | 0, _ | 1, _ | 2, _ | 3, _ => rfl
end
/-- a promise over a tick: from c, m to c', m' -/
def Goes (K : PySem.W.Frag) (a : Ad) (A : TA) (key : Nat) (H : Hp) (c c' : Ge13.Cave) (m m' : Marks) (Q : VK) : Prop :=
  TickAt K a A key H c m ∧ ∀ H', TickAt K a A key H' c' m' → Fr A H H' → Q .non H'
def spGo (K : PySem.W.Frag) (a : Ad) : Sp := fun vs H Q _ => ∃ (A : TA) (key : Nat) (c : Ge13.Cave) (m : Marks) (x y x' y' v : Nat), vs = [.ref A.t, iv (pos c x y), iv (pos c x' y'), iv v] ∧ x < c.w ∧ y < c.h ∧ x' < c.w ∧ y' < c.h ∧ v ≤ 12 ∧ m.length < 100000 ∧
  Goes K a A key H c (goTo c x y (x', y') v) m ((x', y') :: m) Q
def spEnd (K : PySem.W.Frag) (a : Ad) : Sp := fun vs H Q _ => ∃ (A : TA) (key : Nat) (c : Ge13.Cave) (m : Marks) (o : Nat), vs = [.ref A.t, iv o] ∧ Goes K a A key H c { c with over := o } m m Q
def spScore (K : PySem.W.Frag) (a : Ad) : Sp := fun vs H Q _ => ∃ (A : TA) (key : Nat) (c : Ge13.Cave) (m : Marks) (o : Nat), vs = [.ref A.t, iv o] ∧ Goes K a A key H c { c with points := c.points + o } m m Q
section
variable {K : PySem.W.Frag} {σ : L2.St} {H : Hp} {t u : TS} {D : Ends}
theorem s_seq (h : t { D with nx := u D } σ H) : tSeq t u D σ H := h
theorem s_next (h : D.nx σ H) : tNext D σ H := h
end
section
variable {P : Program} {w : World} {K : PySem.W.Frag} {mg : Str → Option Value} {base : Heap} {a : Ad} (T : Txt K mg a)
include T

theorem is_tplaces {σ : L2.St} {H : Hp} {A : TA} {key : Nat} {c : Ge13.Cave} {m : Marks} {te : TE} (h : TickAt K a A key H c m) (i : Is te σ H (.ref A.t)) : Is (tFld K te "places") σ H (.ref A.pl) := is_fld i h.t T.k_Tick (by decide) l_tplaces
theorem is_tstanding {σ : L2.St} {H : Hp} {A : TA} {key : Nat} {c : Ge13.Cave} {m : Marks} {te : TE} (h : TickAt K a A key H c m) (i : Is te σ H (.ref A.t)) : Is (tFld K te "standing") σ H (.ref A.st) := is_fld i h.t T.k_Tick (by decide) l_standing
theorem is_tsteps {σ : L2.St} {H : Hp} {A : TA} {key : Nat} {c : Ge13.Cave} {m : Marks} {te : TE} (h : TickAt K a A key H c m) (i : Is te σ H (.ref A.t)) : Is (tFld K te "steps_to") σ H (.ref A.tp) := is_fld i h.t T.k_Tick (by decide) l_steps
theorem is_tkey {σ : L2.St} {H : Hp} {A : TA} {key : Nat} {c : Ge13.Cave} {m : Marks} {te : TE} (h : TickAt K a A key H c m) (i : Is te σ H (.ref A.t)) : Is (tFld K te "key") σ H (iv key) := is_fld i h.t T.k_Tick (by decide) l_key
theorem is_thad {σ : L2.St} {H : Hp} {A : TA} {key : Nat} {c : Ge13.Cave} {m : Marks} {te : TE} (h : TickAt K a A key H c m) (i : Is te σ H (.ref A.t)) : Is (tFld K te "had_turn") σ H (.ref A.d) := is_fld i h.t T.k_Tick (by decide) l_had
theorem c_go : C8.Cal P w K mg base 1 "go" (spGo K a) [] := by
  obtain ⟨f, fd, F, b⟩ := T.d_go
  refine C8.cal0 F b .nil sc_go (fun vs H Q E h => ?len) (fun cdv A0 outer s H vs Q E hr h => ⟨_, (pss_cons (ps_asg (C8.pe_gc (by rfl) T.g_NOTHING) (pg_sub (pe_fld (pv 0) rfl) (pv 1) set_list)) (pss_cons (ps_asg (pv 3) (pg_sub (pe_fld (pv 0) rfl) (pv 2) set_list)) (pss_one (ps_dput (hu_of hr) (pe_fld (pv 0) rfl) (pv 2) pe_bl rfl)))), ?rd⟩)
  case len => obtain ⟨A, key, c, m, x, y, x', y', v, rfl, _⟩ := h; rfl
  case rd =>
    obtain ⟨A, key, c, m, x, y, x', y', v, rfl, hx, hy, hx', hy', hv, hm, h, k⟩ := h
    refine s_seq (s_setL (v := iv 0) is_c (is_tplaces T h (is_var rfl)) (is_var rfl) h.pl (h.ix hx hy) ?_)
    have h1 := h.put hx hy (v := 0) (by decide)
    refine s_seq (s_setL (is_var rfl) (is_tplaces T h1 (is_var rfl)) (is_var rfl) h1.pl (h1.ix hx' hy') ?_)
    have h2 := h1.put hx' hy' hv
    obtain ⟨kvs, e, hk⟩ := h2.d
    refine s_dput (k := .inl ((pos c x' y' : Nat) : Int)) is_c (is_thad T h2 (is_var rfl)) (is_var rfl) e ?_ ?_
    · have := hk.1
      exact Nat.lt_trans (Nat.lt_of_le_of_lt this hm) (by decide)
    · exact k _ (h2.mark e hk hx') ((Fr.pl.trans Fr.pl).trans Fr.d)
theorem c_end : C8.Cal P w K mg base 1 "end" (spEnd K a) [] := by
  obtain ⟨f, fd, F, b⟩ := T.d_end
  refine C8.cal0 F b .nil sc_end (fun vs H Q E h => ?len) (fun cdv A0 outer s H vs Q E hr h => ⟨_, (pss_cons (ps_set (i := 2) sc_end.nd rfl (Or.inl rfl) (pe_fld (pv 0) rfl)) (pss_one (ps_fld (pv 2) (pv 1) rfl))), ?rd⟩)
  case len => obtain ⟨A, key, c, m, o, rfl, _⟩ := h; rfl
  case rd =>
    obtain ⟨A, key, c, m, o, rfl, h, k⟩ := h
    refine s_seq (s_set (is_tstanding T h (is_var rfl)) ?_)
    refine s_fld (is_var rfl) (is_var rfl) h.st T.k_Standing (by decide) (by show 3 < 1000; decide) fun dx e => ?_
    exact k _ (h.out o c.points dx) Fr.st
theorem c_score : C8.Cal P w K mg base 1 "score" (spScore K a) [] := by
  obtain ⟨f, fd, F, b⟩ := T.d_score
  refine C8.cal0 F b .nil sc_score (fun vs H Q E h => ?len) (fun cdv A0 outer s H vs Q E hr h => ⟨_, (pss_cons (ps_set (i := 2) sc_score.nd rfl (Or.inl rfl) (pe_fld (pv 0) rfl)) (pss_one (ps_fldaug (pv 2) (pv 1) in_add))), ?rd⟩)
  case len => obtain ⟨A, key, c, m, o, rfl, _⟩ := h; rfl
  case rd =>
    obtain ⟨A, key, c, m, o, rfl, h, k⟩ := h
    refine s_seq (s_set (is_tstanding T h (is_var rfl)) ?_)
    refine s_fldaug (is_var rfl) h.st T.k_Standing (by decide) l_points (is_var rfl) (by show 3 < 1000; decide) fun dx e => ?_
    exact k _ (h.out c.over (c.points + o) dx) Fr.st
end
end G

set_option Elab.async false
set_option linter.all false
set_option maxRecDepth 100000
set_option maxHeartbeats 4000000
namespace G
open PySem PySem.Spec PyProof.Rows L2
open Ge13 (at_ put gems beside cellTo Marks goTo playerTurn stoneTurn monsterTurn)
open Gm
open U

/-! ### heaps that have grown -/
theorem ob_same {K : PySem.W.Frag} {H H' : Hp} {p C : Addr} {fs : List (Str × V)} (h : Ob K H p C fs) (s : Same H H') : Ob K H' p C fs := by
  obtain ⟨dx, e⟩ := h
  exact ⟨dx, s _ _ e⟩
theorem same_new {H : Hp} {p : Addr} {o : HO} (h : H p = none) : Same H (upd H p o) := fun b u e => by
  rw [upd_ne (ne_of_none e h)]
  exact e
section
variable {K : PySem.W.Frag} {a : Ad} {A : TA} {key : Nat} {H H' : Hp} {c : Ge13.Cave} {m m' : Marks}
theorem TickAt.same (h : TickAt K a A key H c m) (s : Same H H') : TickAt K a A key H' c m where
  t := ob_same h.t s
  st := ob_same h.st s
  cv := ob_same h.cv s
  pl := s _ _ h.pl
  tp := s _ _ h.tp
  d := by
    obtain ⟨kvs, e, k⟩ := h.d
    exact ⟨kvs, s _ _ e, k⟩
  wf := h.wf
theorem Fr.same (s : Same H H') : Fr A H H' := fun b o h _ _ _ => s b o h
theorem TickAt.marks (h : TickAt K a A key H c m) (hl : m.length ≤ m'.length) (hc : ∀ p, m'.contains p = m.contains p) : TickAt K a A key H c m' where
  t := h.t
  st := h.st
  cv := h.cv
  pl := h.pl
  tp := h.tp
  d := by
    obtain ⟨kvs, e, k1, k2⟩ := h.d
    exact ⟨kvs, e, Nat.le_trans k1 hl, fun x y hx hy => by rw [k2 x y hx hy, hc]⟩
  wf := h.wf
theorem Goes.mono {Q : VK} {c1 c2 : Ge13.Cave} {m1 m2 : Marks} (s : Same H H') (h : Goes K a A key H c c1 m m1 Q) (e : c1 = c2) (e2 : m1 = m2) : Goes K a A key H' c c2 m m2 Q := by
  subst e e2
  exact ⟨h.1.same s, fun H2 h2 f => h.2 H2 h2 ((Fr.same s).trans f)⟩
end
/-! ### a comprehension over a tuple, over a list, each item's value known -/
section
variable {K : PySem.W.Frag} {σ : L2.St} {H : Hp} {tl te : TE} {p : Addr} {xs : List V} {s : Nat} {Q : VK}
theorem wipe_one {σ : L2.St} {s : Nat} {x : V} : wipe ((wipe σ [s]).set s (some x)) [s] = wipe σ [s] := by
  show ((σ.set s none).set s (some x)).set s none = σ.set s none
  rw [List.set_set, List.set_set]
theorem take_snoc {α : Type} {l : List α} {i : Nat} {x : α} (h : l[i]? = some x) : l.take (i + 1) = l.take i ++ [x] := by
  obtain ⟨h1, h2⟩ := List.getElem?_eq_some_iff.mp h
  rw [List.take_succ, h]
  rfl
theorem lcT {g : V → V} (hl : Is tl σ H (.ref p)) (h : SqT K H p xs) (hn : xs.length ≤ 100000)
    (he : ∀ x ∈ xs, ∀ H', Same H H' → Is te ((σ.set s none).set s (some x)) H' (g x)) (k : ∀ D, H D = none → Q (.ref D) (upd H D (.lst (xs.map g)))) : tLc (iTup K tl) (gName s) tYes te [s] σ H Q := by
  refine hl _ ⟨p, rfl, ⟨xs, h⟩, fun D hD => ?_⟩
  have sq : ∀ acc, SqT K (upd H D (.lst acc)) p xs := fun acc => by
    rcases h with (h | ⟨o, h⟩) | h
    · exact .inl (.inl (same_new hD _ _ h))
    · exact .inl (.inr ⟨o, same_new hD _ _ h⟩)
    · exact .inr h
  refine lc_tup (K := K) (a := p) (xs := xs) (fun i H' => H' = upd H D (.lst ((xs.take i).map g))) rfl (fun i H' _ e => by rw [e]; exact sq _) ?_ ?_
  · rintro i x H' hi rfl
    refine ⟨wipe_one, ?_⟩
    dsimp only [tYes]
    rw [if_pos rfl]
    refine he x (List.mem_of_getElem? hi) _ (same_new hD) _ ⟨_, upd_same, ?_, ?_⟩
    · have := (List.getElem?_eq_some_iff.mp hi).1
      have e1 : ((xs.take i).map g).length = i := by rw [List.length_map, List.length_take]; omega
      rw [e1]
      exact Nat.lt_trans (Nat.lt_of_lt_of_le this hn) (by decide)
    · rw [upd_upd, take_snoc hi, List.map_append]
      rfl
  · rintro H' rfl
    rw [List.take_length]
    exact k D hD
theorem lcL {g : V → V} (hl : Is tl σ H (.ref p)) (h : SqL K H p xs) (hn : xs.length ≤ 100000)
    (he : ∀ x ∈ xs, ∀ H', Same H H' → Is te ((σ.set s none).set s (some x)) H' (g x)) (k : ∀ D, H D = none → Q (.ref D) (upd H D (.lst (xs.map g)))) : tLc (iList K tl) (gName s) tYes te [s] σ H Q := by
  refine hl _ ⟨p, rfl, ⟨xs, h⟩, fun D hD => ?_⟩
  refine lc_list (K := K) (a := p) (xs := xs) (fun i H' => H' = upd H D (.lst ((xs.take i).map g))) rfl (fun i H' _ e => by rw [e]; exact (same_new hD).seq h) ?_ ?_
  · rintro i x H' hi rfl
    refine ⟨wipe_one, ?_⟩
    dsimp only [tYes]
    rw [if_pos rfl]
    refine he x (List.mem_of_getElem? hi) _ (same_new hD) _ ⟨_, upd_same, ?_, ?_⟩
    · have := (List.getElem?_eq_some_iff.mp hi).1
      have e1 : ((xs.take i).map g).length = i := by rw [List.length_map, List.length_take]; omega
      rw [e1]
      exact Nat.lt_trans (Nat.lt_of_lt_of_le this hn) (by decide)
    · rw [upd_upd, take_snoc hi, List.map_append]
      rfl
  · rintro H' rfl
    rw [List.take_length]
    exact k D hD
theorem any_map {g : V → Bool} (xs : List V) : ((xs.map g).map V.bl) = xs.map fun x => V.bl (g x) := by rw [List.map_map]; rfl
/-- any([.. for x in t]) -/
theorem anyT {g : V → Bool} (hl : Is tl σ H (.ref p)) (h : SqT K H p xs) (hn : xs.length ≤ 100000)
    (he : ∀ x ∈ xs, ∀ H', Same H H' → Is te ((σ.set s none).set s (some x)) H' (.bl (g x))) (k : ∀ H', Same H H' → Q (.bl (xs.any g)) H') : tCB (rAny K) (tCons (tLc (iTup K tl) (gName s) tYes te [s]) tNil) σ H Q :=
  show tLc (iTup K tl) (gName s) tYes te [s] σ H (fun x H1 => rAny K [x] H1 Q) from lcT (g := fun x => .bl (g x)) hl h hn he fun D hD => by
    refine ⟨D, xs.map g, rfl, SqL.of (by rw [upd_same, any_map]), ?_⟩
    rw [List.any_map]
    exact k _ (same_new hD)
theorem anyL {g : V → Bool} (hl : Is tl σ H (.ref p)) (h : SqL K H p xs) (hn : xs.length ≤ 100000)
    (he : ∀ x ∈ xs, ∀ H', Same H H' → Is te ((σ.set s none).set s (some x)) H' (.bl (g x))) (k : ∀ H', Same H H' → Q (.bl (xs.any g)) H') : tCB (rAny K) (tCons (tLc (iList K tl) (gName s) tYes te [s]) tNil) σ H Q :=
  show tLc (iList K tl) (gName s) tYes te [s] σ H (fun x H1 => rAny K [x] H1 Q) from lcL (g := fun x => .bl (g x)) hl h hn he fun D hD => by
    refine ⟨D, xs.map g, rfl, SqL.of (by rw [upd_same, any_map]), ?_⟩
    rw [List.any_map]
    exact k _ (same_new hD)
end
theorem s_retTup {σ : L2.St} {H : Hp} {ta : L2.TA} {vs : List V} {D : Ends} (h : IsA ta σ H vs) (hl : vs.length ≤ sizeLine) (k : ∀ p, H p = none → D.rt (.ref p) (upd H p (.tup vs))) : tRet (tTup ta) D σ H := h _ ⟨hl, k⟩
theorem s_retLst {σ : L2.St} {H : Hp} {ta : L2.TA} {vs : List V} {D : Ends} (h : IsA ta σ H vs) (hl : vs.length ≤ sizeLine) (k : ∀ p, H p = none → D.rt (.ref p) (upd H p (.lst vs))) : tRet (tLst ta) D σ H := h _ ⟨hl, k⟩
/-! ### reading a cave -/
structure CavAt (K : PySem.W.Frag) (a : Ad) (H : Hp) (cv pl : Addr) (c : Ge13.Cave) : Prop where
  ob : Ob K H cv a.cCave (cavF c.w c.h pl)
  ls : H pl = some (.lst (plc c))
theorem CavAt.same {K : PySem.W.Frag} {a : Ad} {H H' : Hp} {cv pl : Addr} {c : Ge13.Cave} (h : CavAt K a H cv pl c) (s : Same H H') : CavAt K a H' cv pl c := ⟨ob_same h.ob s, s _ _ h.ls⟩
theorem TickAt.cav {K : PySem.W.Frag} {a : Ad} {A : TA} {key : Nat} {H : Hp} {c : Ge13.Cave} {m : Marks} (h : TickAt K a A key H c m) : CavAt K a H A.cv A.pl c := ⟨h.cv, h.pl⟩
def spStride (K : PySem.W.Frag) (a : Ad) : Sp := fun vs H Q _ => ∃ (cv p : Addr) (w h : Nat), vs = [.ref cv] ∧ Ob K H cv a.cCave (cavF w h p) ∧ Q (.int ((w : Int) + 2)) H
def spSteps (K : PySem.W.Frag) (a : Ad) : Sp := fun vs H Q _ => ∃ (cv p : Addr) (w h : Nat), vs = [.ref cv] ∧ Ob K H cv a.cCave (cavF w h p) ∧ ∀ t, H t = none → Q (.ref t) (upd H t (.tup (stepsW w)))
def spRowBegin (K : PySem.W.Frag) (a : Ad) : Sp := fun vs H Q _ => ∃ (cv p : Addr) (w h y : Nat), vs = [.ref cv, iv y] ∧ y < 1000 ∧ Ob K H cv a.cCave (cavF w h p) ∧ Q (iv ((y + 1) * (w + 2) + 1)) H
def spGems (K : PySem.W.Frag) (a : Ad) : Sp := fun vs H Q _ => ∃ (cv pl : Addr) (c : Ge13.Cave), vs = [.ref cv] ∧ CavAt K a H cv pl c ∧ c.cells.length = c.w * c.h ∧ Q (iv (gems c)) H
def spIsOver (K : PySem.W.Frag) (a : Ad) : Sp := fun vs H Q _ => ∃ (st cv : Addr) (o p : Nat), vs = [.ref st] ∧ Ob K H st a.cStanding (stdF cv o p) ∧ Q (.bl (!decide ((o : Int) = 0))) H
section
variable {P : Program} {w : World} {K : PySem.W.Frag} {mg : Str → Option Value} {base : Heap} {a : Ad} (T : Txt K mg a)
include T

theorem c_stride : C8.Cal P w K mg base 1 "stride" (spStride K a) [] := by
  obtain ⟨f, fd, F, b⟩ := T.d_stride
  refine C8.cal0 F b .nil sc_stride (fun vs H Q E h => ?len) (fun cdv A0 outer s H vs Q E hr h => ⟨_, (pss_one (ps_ret (pe_op op_add (pe_fld (pv 0) rfl) pe_int))), ?rd⟩)
  case len => obtain ⟨cv, p, w, h, rfl, _⟩ := h; rfl
  case rd =>
    obtain ⟨cv, p, w, hh, rfl, h, k⟩ := h
    exact s_ret (is_op0 (is_fld (is_var rfl) h T.k_Cave (by decide) l_wide) is_c) k
theorem c_steps : C8.Cal P w K mg base 2 "steps" (spSteps K a) [] := by
  obtain ⟨f, fd, F, b⟩ := T.d_steps
  refine C8.cal0 F b .nil sc_steps (fun vs H Q E h => ?len) (fun cdv A0 outer s H vs Q E hr h => ⟨_, (pss_one (ps_ret (pe_tup (pa_cons pe_int (pa_cons (C8.pe_c (c_stride T) hr (by decide) (by rfl) (pa_cons (pv 0) pa_nil)) (pa_cons (pe_un un_neg pe_int) (pa_cons (pe_un un_neg (C8.pe_c (c_stride T) hr (by decide) (by rfl) (pa_cons (pv 0) pa_nil))) pa_nil))))))), ?rd⟩)
  case len => obtain ⟨cv, p, w, h, rfl, _⟩ := h; rfl
  case rd =>
    obtain ⟨cv, p, w, hh, rfl, h, k⟩ := h
    have e : Gv (spStride K a) ([.ref cv] ++ []) H (.int ((w : Int) + 2)) := fun Q' E' q => ⟨cv, p, w, hh, rfl, h, q⟩
    exact s_retTup (vs := stepsW w) (isA_cons is_c (isA_cons (is_call (isA_cons (is_var rfl) isA_nil) e) (isA_cons (is_un is_c) (isA_cons (is_un (is_call (isA_cons (is_var rfl) isA_nil) e)) isA_nil)))) (by show 4 ≤ sizeLine; decide) k
theorem c_row_begin : C8.Cal P w K mg base 2 "row_begin" (spRowBegin K a) [] := by
  obtain ⟨f, fd, F, b⟩ := T.d_row_begin
  refine C8.cal0 F b .nil sc_row_begin (fun vs H Q E h => ?len) (fun cdv A0 outer s H vs Q E hr h => ⟨_, (pss_one (ps_ret (pe_op op_add (pe_op op_mul (pe_op op_add (pv 1) pe_int) (C8.pe_c (c_stride T) hr (by decide) (by rfl) (pa_cons (pv 0) pa_nil))) pe_int))), ?rd⟩)
  case len => obtain ⟨cv, p, w, h, y, rfl, _⟩ := h; rfl
  case rd =>
    obtain ⟨cv, p, w, hh, y, rfl, hy, h, k⟩ := h
    have e : Gv (spStride K a) ([.ref cv] ++ []) H (.int ((w : Int) + 2)) := fun Q' E' q => ⟨cv, p, w, hh, rfl, h, q⟩
    refine s_ret (is_to (is_op0 (is_opI (is_op0 (is_var rfl) is_c) (is_call (isA_cons (is_var rfl) isA_nil) e) (Or.inl ⟨?_, ?_⟩)) is_c) (j := (((y + 1) * (w + 2) + 1 : Nat) : Int)) ?_) k
    · have : (0 : Int) ≤ (y : Int) := Int.natCast_nonneg y
      omega
    · omega
    · simp
theorem c_count_gems : C8.Cal P w K mg base 1 "count_gems" (spGems K a) [] := by
  obtain ⟨f, fd, F, b⟩ := T.d_count_gems
  refine C8.cal0 F b .nil sc_count_gems (fun vs H Q E h => ?len) (fun cdv A0 outer s H vs Q E hr h => ⟨_, (pss_one (ps_ret (pe_op op_add (pe_bm PySem.F.plainAttrs_list PySem.F.slot_list_count PySem.F.type_list_count mt_lcount (pe_fld (pv 0) rfl) (pa_cons (C8.pe_gc (by rfl) T.g_LYING_GEM) pa_nil)) (pe_bm PySem.F.plainAttrs_list PySem.F.slot_list_count PySem.F.type_list_count mt_lcount (pe_fld (pv 0) rfl) (pa_cons (C8.pe_gc (by rfl) T.g_FALLING_GEM) pa_nil))))), ?rd⟩)
  case len => obtain ⟨cv, p, c, rfl, _⟩ := h; rfl
  case rd =>
    obtain ⟨cv, pl, c, rfl, h, hl, k⟩ := h
    have e : H pl = some (.lst (((rim c).map fun (n : Nat) => (n : Int)).map V.int)) := by rw [h.ls, plc, List.map_map]; rfl
    have f : Is (tFld K (tVar 0) "places") (start nm_count_gems [.ref cv]) H (.ref pl) := is_fld (is_var rfl) h.ob T.k_Cave (by decide) l_places
    refine s_ret (is_to (is_op0 (is_cnt f (isA_cons is_c isA_nil) e) (is_cnt f (isA_cons is_c isA_nil) e)) (j := ((gems c : Nat) : Int)) ?_) k
    have e5 : ((rim c).map fun (n : Nat) => (n : Int)).count (5 : Int) = (rim c).count 5 := count_cast (rim c) 5
    have e6 : ((rim c).map fun (n : Nat) => (n : Int)).count (6 : Int) = (rim c).count 6 := count_cast (rim c) 6
    have g := rim_gems hl
    show ((((rim c).map fun (n : Nat) => (n : Int)).count 5 : Nat) : Int) + ((((rim c).map fun (n : Nat) => (n : Int)).count 6 : Nat) : Int) = ((gems c : Nat) : Int)
    rw [← g, e5, e6]
    omega
theorem c_is_over : C8.Cal P w K mg base 1 "is_over" (spIsOver K a) [] := by
  obtain ⟨f, fd, F, b⟩ := T.d_is_over
  refine C8.cal0 F b .nil sc_is_over (fun vs H Q E h => ?len) (fun cdv A0 outer s H vs Q E hr h => ⟨_, (pss_one (ps_ret (pe_cmpR op_ne (pe_fld (pv 0) rfl) (C8.pe_gc (by rfl) T.g_GOES_ON) (nomark _)))), ?rd⟩)
  case len => obtain ⟨cv, p, w, h, rfl, _⟩ := h; rfl
  case rd =>
    obtain ⟨st, cv, o, p, rfl, h, k⟩ := h
    exact s_ret (is_neI (is_fld (is_var rfl) h T.k_Standing (by decide) l_outcome) is_c) k
end
end G

set_option Elab.async false
set_option linter.all false
set_option maxRecDepth 100000
set_option maxHeartbeats 4000000
namespace G
open PySem PySem.Spec PyProof.Rows L2
open Ge13 (at_ put gems beside cellTo Marks goTo playerTurn stoneTurn monsterTurn)
open Gm
open U

section
variable {K : PySem.W.Frag} {σ : L2.St} {H : Hp} {D : Ends}
theorem s_call {sp : Sp} {dvs vs : List V} {E : XK} {ta : L2.TA} (ha : IsA ta σ H vs) (h : sp (vs ++ dvs) H (fun _ H1 => D.nx σ H1) E) : tDrop (tCall sp dvs E ta) D σ H := ha _ h
/-- an if without an else that may leave -/
theorem s_guard {t : TT} {b : Bool} {p u : TS} (h : IsT t σ H b) (h1 : b = true → p { D with nx := u D } σ H) (h2 : b = false → u D σ H) : tSeq (tIfS t p tNext) u D σ H := s_if (D := { D with nx := u D }) h h1 h2
theorem b_or {i j k l : Int} (h : (decide (i = j) || decide (k = l)) = true) : i = j ∨ k = l := by simpa using h
theorem b_nor {i j k l : Int} (h : (decide (i = j) || decide (k = l)) = false) : ¬ i = j ∧ ¬ k = l := by simpa using h
theorem b_t {p : Prop} [Decidable p] (h : decide p = true) : p := of_decide_eq_true h
theorem b_f {p : Prop} [Decidable p] (h : decide p = false) : ¬ p := of_decide_eq_false h
theorem n_t {n : Nat} {z : Int} (k : Nat) (hb : decide ((n : Int) = z) = true) (hz : z = (k : Int) := by rfl) : n = k := by have := of_decide_eq_true hb; omega
theorem n_f {n : Nat} {z : Int} (k : Nat) (hb : decide ((n : Int) = z) = false) (hz : z = (k : Int) := by rfl) : ¬ n = k := by have := of_decide_eq_false hb; omega
end
def spPush (K : PySem.W.Frag) (a : Ad) : Sp := fun vs H Q _ => ∃ (A : TA) (key : Nat) (c : Ge13.Cave) (m : Marks) (x y d : Nat), vs = [.ref A.t, iv (pos c x y), iv d] ∧ x < c.w ∧ y < c.h ∧ d < 4 ∧ cellTo c x y d = 3 ∧ m.length < 99990 ∧
  Goes K a A key H c (pushed c m x y d).1 m (pushed c m x y d).2 Q
/-- a turn's promise -/
def spT (K : PySem.W.Frag) (a : Ad) (cond : Nat → Ge13.Cave → Nat → Nat → Prop) (f : Nat → Ge13.Cave → Marks → Nat → Nat → Ge13.Cave × Marks) : Sp := fun vs H Q _ => ∃ (A : TA) (key : Nat) (c : Ge13.Cave) (m : Marks) (x y : Nat),
  vs = [.ref A.t, iv (pos c x y)] ∧ x < c.w ∧ y < c.h ∧ m.length < 99990 ∧ cond key c x y ∧ Goes K a A key H c (f key c m x y).1 m (f key c m x y).2 Q
section
variable {P : Program} {w : World} {K : PySem.W.Frag} {mg : Str → Option Value} {base : Heap} {a : Ad} (T : Txt K mg a)
include T

theorem is_there {σ : L2.St} {H : Hp} {A : TA} {key : Nat} {c : Ge13.Cave} {m : Marks} {tt tp tw : TE} {x y d : Nat} (h : TickAt K a A key H c m) (hd : d < 4) (it : Is tt σ H (.ref A.t)) (ip : Is tp σ H (iv (pos c x y))) (iw : Is tw σ H (iv d)) :
    Is (tOp (rI0 fun i j => .int (i + j)) tp (tOp (rIxT K) (tFld K tt "steps_to") tw)) σ H (iv (posTo c x y d)) :=
  is_to (is_op0 ip (is_ixT (is_tsteps T h it) iw (SqT.of h.tp) (steps_at hd))) (posTo_int c x y d)
theorem is_atTo {σ : L2.St} {H : Hp} {A : TA} {key : Nat} {c : Ge13.Cave} {m : Marks} {tt tp : TE} {x y d : Nat} (h : TickAt K a A key H c m) (hx : x < c.w) (hy : y < c.h) (it : Is tt σ H (.ref A.t)) (ip : Is tp σ H (iv (posTo c x y d))) :
    Is (tOp (rIxL K) (tFld K tt "places") tp) σ H (iv (cellTo c x y d)) := is_ixL (is_tplaces T h it) ip (SqL.of h.pl) (h.to hx hy)
theorem is_atPos {σ : L2.St} {H : Hp} {A : TA} {key : Nat} {c : Ge13.Cave} {m : Marks} {tt tp : TE} {x y : Nat} (h : TickAt K a A key H c m) (hx : x ≤ c.w) (hy : y ≤ c.h) (it : Is tt σ H (.ref A.t)) (ip : Is tp σ H (iv (pos c x y))) :
    Is (tOp (rIxL K) (tFld K tt "places") tp) σ H (iv (at_ c x y)) := is_ixL (is_tplaces T h it) ip (SqL.of h.pl) (h.at_ hx hy)
theorem c_push : C8.Cal P w K mg base 2 "push" (spPush K a) [] := by
  obtain ⟨f, fd, F, b⟩ := T.d_push
  refine C8.cal0 F b .nil sc_push (fun vs H Q E h => ?len) (fun cdv A0 outer s H vs Q E hr h => ⟨_, (pss_cons (ps_set (i := 3) sc_push.nd rfl (Or.inl rfl) (pe_op op_add (pv 1) (pe_ix ix_tup (pe_fld (pv 0) rfl) (pv 2) (fun _ _ => rfl)))) (pss_cons (ps_set (i := 4) sc_push.nd rfl (Or.inl rfl) (pe_op op_add (pv 3) (pe_ix ix_tup (pe_fld (pv 0) rfl) (pv 2) (fun _ _ => rfl)))) (pss_one (ps_if (pt_cmpR op_eq (pe_ix ix_list (pe_fld (pv 0) rfl) (pv 4) (fun _ _ => rfl)) (C8.pe_gc (by rfl) T.g_NOTHING) (nomark _)) (pss_cons (ps_expr (C8.pe_c (c_go T) hr (by decide) (by rfl) (pa_cons (pv 0) (pa_cons (pv 3) (pa_cons (pv 4) (pa_cons (C8.pe_gc (by rfl) T.g_LYING_STONE) pa_nil)))))) (pss_one (ps_expr (C8.pe_c (c_go T) hr (by decide) (by rfl) (pa_cons (pv 0) (pa_cons (pv 1) (pa_cons (pv 3) (pa_cons (C8.pe_gc (by rfl) T.g_PLAYER) pa_nil)))))))) pss_nil)))), ?rd⟩)
  case len => obtain ⟨A, key, c, m, x, y, d, rfl, _⟩ := h; rfl
  case rd =>
    obtain ⟨A, key, c, m, x, y, d, rfl, hx, hy, hd, h3, hm, h, k⟩ := h
    obtain ⟨hqx, hqy, eq⟩ := to_in hx hy (by rw [h3]; decide)
    refine s_seq (s_set (is_there T h hd (is_var rfl) (is_var rfl) (is_var rfl)) ?_)
    rw [eq]
    refine s_seq (s_set (is_there T h hd (is_var rfl) (is_var rfl) (is_var rfl)) ?_)
    refine s_if (isT_t (is_eqI (is_atTo T h hqx hqy (is_var rfl) (is_var rfl)) is_c)) (fun hb => ?_) (fun hb => ?_)
    · have h0 : cellTo c (beside c x y d).1 (beside c x y d).2 d = 0 := n_t 0 hb
      obtain ⟨hrx, hry, er⟩ := to_in hqx hqy (d := d) (by rw [h0]; decide)
      rw [er]
      refine s_seq (s_call (isA_cons (is_var rfl) (isA_cons (is_var rfl) (isA_cons (is_var rfl) (isA_cons is_c isA_nil)))) ?_)
      refine ⟨A, key, c, m, _, _, _, _, 3, rfl, hqx, hqy, hrx, hry, by decide, by omega, h, fun H1 h1 f1 => ?_⟩
      refine s_call (isA_cons (is_var rfl) (isA_cons (is_var rfl) (isA_cons (is_var rfl) (isA_cons is_c isA_nil)))) ?_
      refine ⟨A, key, goTo c (beside c x y d).1 (beside c x y d).2 (beside c (beside c x y d).1 (beside c x y d).2 d) 3, beside c (beside c x y d).1 (beside c x y d).2 d :: m, x, y, (beside c x y d).1, (beside c x y d).2, 7, rfl, hx, hy, hqx, hqy, by decide, by rw [List.length_cons]; omega, h1, fun H2 h2 f2 => ?_⟩
      refine k H2 ?_ (f1.trans f2)
      unfold pushed
      rw [if_pos h0]
      have e := push_cells c (beside c x y d) (beside c (beside c x y d).1 (beside c x y d).2 d) (x, y)
      dsimp only at e ⊢
      rw [← e]
      refine h2.marks (by simp) fun p => ?_
      simp only [List.contains_cons]
      rw [Bool.or_left_comm]
    · refine s_next ?_
      have h0 : ¬ cellTo c (beside c x y d).1 (beside c x y d).2 d = 0 := n_f 0 hb
      refine k H ?_ (Fr.refl H)
      unfold pushed
      rw [if_neg h0]
      exact h
theorem c_turn_player : C8.Cal P w K mg base 3 "turn_player" (spT K a (fun key c x y => at_ c x y = 7 ∧ key ≤ 4) (fun key c m x y => playerTurn c m x y key)) [] := by
  obtain ⟨f, fd, F, b⟩ := T.d_turn_player
  refine C8.cal0 F b .nil sc_turn_player (fun vs H Q E h => ?len) (fun cdv A0 outer s H vs Q E hr h => ⟨_, (pss_cons (ps_if (pt_cmpR op_eq (pe_fld (pv 0) rfl) pe_int (nomark _)) (pss_one ps_retN) pss_nil) (pss_cons (ps_set (i := 2) sc_turn_player.nd rfl (Or.inl rfl) (pe_op op_sub (pe_fld (pv 0) rfl) pe_int)) (pss_cons (ps_set (i := 3) sc_turn_player.nd rfl (Or.inl rfl) (pe_op op_add (pv 1) (pe_ix ix_tup (pe_fld (pv 0) rfl) (pv 2) (fun _ _ => rfl)))) (pss_cons (ps_set (i := 4) sc_turn_player.nd rfl (Or.inl rfl) (pe_ix ix_list (pe_fld (pv 0) rfl) (pv 3) (fun _ _ => rfl))) (pss_one (ps_if (PW.pt (pw_or (pt_cmpR op_eq (pv 4) (C8.pe_gc (by rfl) T.g_NOTHING) (nomark _)) (pw_or1 (pt_cmpR op_eq (pv 4) (C8.pe_gc (by rfl) T.g_EARTH) (nomark _))))) (pss_one (ps_expr (C8.pe_c (c_go T) hr (by decide) (by rfl) (pa_cons (pv 0) (pa_cons (pv 1) (pa_cons (pv 3) (pa_cons (C8.pe_gc (by rfl) T.g_PLAYER) pa_nil))))))) (pss_one (ps_if (pt_val (C8.pe_c (c_is_gem T) hr (by decide) (by rfl) (pa_cons (pv 4) pa_nil))) (pss_cons (ps_expr (C8.pe_c (c_go T) hr (by decide) (by rfl) (pa_cons (pv 0) (pa_cons (pv 1) (pa_cons (pv 3) (pa_cons (C8.pe_gc (by rfl) T.g_PLAYER) pa_nil)))))) (pss_one (ps_expr (C8.pe_c (c_score T) hr (by decide) (by rfl) (pa_cons (pv 0) (pa_cons (C8.pe_gc (by rfl) T.g_POINTS_FOR_GEM) pa_nil)))))) (pss_one (ps_if (PW.pt (pw_and (pt_cmpR op_eq (pv 4) (C8.pe_gc (by rfl) T.g_LYING_STONE) (nomark _)) (pw_and1 (PW.pt (pw_or (pt_cmpR op_eq (pv 2) (C8.pe_gc (by rfl) T.g_RIGHT) (nomark _)) (pw_or1 (pt_cmpR op_eq (pv 2) (C8.pe_gc (by rfl) T.g_LEFT) (nomark _)))))))) (pss_one (ps_expr (C8.pe_c (c_push T) hr (by decide) (by rfl) (pa_cons (pv 0) (pa_cons (pv 1) (pa_cons (pv 2) pa_nil)))))) (pss_one (ps_if (PW.pt (pw_and (pt_cmpR op_eq (pv 4) (C8.pe_gc (by rfl) T.g_WAY_OUT) (nomark _)) (pw_and1 (pt_cmpR op_eq (C8.pe_c (c_count_gems T) hr (by decide) (by rfl) (pa_cons (pe_fld (pe_fld (pv 0) rfl) rfl) pa_nil)) pe_int (nomark _))))) (pss_cons (ps_asg (C8.pe_gc (by rfl) T.g_NOTHING) (pg_sub (pe_fld (pv 0) rfl) (pv 1) set_list)) (pss_cons (ps_expr (C8.pe_c (c_score T) hr (by decide) (by rfl) (pa_cons (pv 0) (pa_cons (C8.pe_gc (by rfl) T.g_POINTS_FOR_WAY_OUT) pa_nil)))) (pss_one (ps_expr (C8.pe_c (c_end T) hr (by decide) (by rfl) (pa_cons (pv 0) (pa_cons (C8.pe_gc (by rfl) T.g_WON) pa_nil))))))) pss_nil)))))))))))), ?rd⟩)
  case len => obtain ⟨A, key, c, m, x, y, rfl, _⟩ := h; rfl
  case rd =>
    obtain ⟨A, key, c, m, x, y, rfl, hx, hy, hm, ⟨h7, hk4⟩, h, k⟩ := h
    dsimp only at k
    refine s_guard (isT_t (is_eqI (is_tkey T h (is_var rfl)) is_c)) (fun hb => ?_) (fun hb => ?_)
    · have hk : key = 0 := by have := b_t hb; omega
      refine k H ?_ (Fr.refl H)
      unfold playerTurn
      rw [if_pos hk]
      exact h
    · have hk : key ≠ 0 := by have := b_f hb; omega
      have e := playerTurn_eq (c := c) (m := m) (x := x) (y := y) hk
      generalize hd : key - 1 = d at e
      have hd4 : d < 4 := by omega
      refine s_seq (s_set (is_to (is_op0 (is_tkey T h (is_var rfl)) is_c) (j := ((d : Nat) : Int)) (by omega)) ?_)
      refine s_seq (s_set (is_there T h hd4 (is_var rfl) (is_var rfl) (is_var rfl)) ?_)
      refine s_seq (s_set (is_atTo T h hx hy (is_var rfl) (is_var rfl)) ?_)
      refine s_if (isT_or (isT_t (is_eqI (is_var rfl) is_c)) (fun _ => isT_t (is_eqI (is_var rfl) is_c))) (fun hb => ?_) (fun hb => ?_)
      · have c1 : @Eq Nat (cellTo c x y d) 0 ∨ @Eq Nat (cellTo c x y d) 1 := by have := b_or hb; omega
        obtain ⟨hqx, hqy, eq⟩ := to_in hx hy (d := d) (by omega)
        rw [if_pos c1] at e
        rw [eq]
        refine s_call (isA_cons (is_var rfl) (isA_cons (is_var rfl) (isA_cons (is_var rfl) (isA_cons is_c isA_nil)))) ?_
        exact ⟨A, key, c, m, x, y, _, _, 7, rfl, hx, hy, hqx, hqy, by decide, by omega, h, fun H1 h1 f1 => k H1 (by rw [e]; exact h1) f1⟩
      · have c1 : ¬ (@Eq Nat (cellTo c x y d) 0 ∨ @Eq Nat (cellTo c x y d) 1) := by have := b_nor hb; omega
        rw [if_neg c1] at e
        refine s_if (isT_v (is_g (is_var rfl))) (fun hb => ?_) (fun hb => ?_)
        · have c2 : @Eq Nat (cellTo c x y d) 5 ∨ @Eq Nat (cellTo c x y d) 6 := by have := b_or hb; omega
          obtain ⟨hqx, hqy, eq⟩ := to_in hx hy (d := d) (by omega)
          rw [if_pos c2] at e
          rw [eq]
          refine s_seq (s_call (isA_cons (is_var rfl) (isA_cons (is_var rfl) (isA_cons (is_var rfl) (isA_cons is_c isA_nil)))) ?_)
          refine ⟨A, key, c, m, x, y, _, _, 7, rfl, hx, hy, hqx, hqy, by decide, by omega, h, fun H1 h1 f1 => ?_⟩
          refine s_call (isA_cons (is_var rfl) (isA_cons is_c isA_nil)) ?_
          exact ⟨A, key, _, _, 10, rfl, h1, fun H2 h2 f2 => k H2 (by rw [e]; exact h2) (f1.trans f2)⟩
        · have c2 : ¬ (@Eq Nat (cellTo c x y d) 5 ∨ @Eq Nat (cellTo c x y d) 6) := by have := b_nor hb; omega
          rw [if_neg c2] at e
          refine s_if (isT_and (isT_t (is_eqI (is_var rfl) is_c)) (fun _ => isT_or (isT_t (is_eqI (is_var rfl) is_c)) (fun _ => isT_t (is_eqI (is_var rfl) is_c)))) (fun hb => ?_) (fun hb => ?_)
          · have c3 : @Eq Nat (cellTo c x y d) 3 ∧ (d = 0 ∨ d = 2) := by
              rw [Bool.and_eq_true] at hb
              have := b_t hb.1
              have := b_or hb.2
              omega
            rw [if_pos c3] at e
            refine s_call (isA_cons (is_var rfl) (isA_cons (is_var rfl) (isA_cons (is_var rfl) isA_nil))) ?_
            exact ⟨A, key, c, m, x, y, d, rfl, hx, hy, hd4, c3.1, hm, h, fun H1 h1 f1 => k H1 (by rw [e]; exact h1) f1⟩
          · have c3 : ¬ (@Eq Nat (cellTo c x y d) 3 ∧ (d = 0 ∨ d = 2)) := by
              intro z
              have e1 : (decide (((cellTo c x y d : Nat) : Int) = 3) && (decide (((d : Nat) : Int) = 0) || decide (((d : Nat) : Int) = 2))) = true := by
                simp only [Bool.and_eq_true, Bool.or_eq_true, decide_eq_true_eq]
                omega
              exact absurd (hb.symm.trans e1) (by decide)
            rw [if_neg c3] at e
            refine s_if (isT_and (isT_t (is_eqI (is_var rfl) is_c)) (fun _ => isT_t (is_eqI (is_call (isA_cons (is_fld (is_tstanding T h (is_var rfl)) h.st T.k_Standing (by decide) l_cave) isA_nil) (fun Q' E' q => ⟨A.cv, A.pl, c, rfl, h.cav, h.wf.len, q⟩)) is_c))) (fun hb => ?_) (fun hb => ?_)
            · have c4 : @Eq Nat (cellTo c x y d) 12 ∧ gems c = 0 := by
                rw [Bool.and_eq_true] at hb
                have := b_t hb.1
                have := b_t hb.2
                omega
              rw [if_pos c4] at e
              refine s_seq (s_setL (v := iv 0) is_c (is_tplaces T h (is_var rfl)) (is_var rfl) h.pl (h.ix hx hy) ?_)
              have h1 := h.put hx hy (v := 0) (by decide)
              refine s_seq (s_call (isA_cons (is_var rfl) (isA_cons is_c isA_nil)) ?_)
              refine ⟨A, key, _, _, 100, rfl, h1, fun H2 h2 f2 => ?_⟩
              refine s_call (isA_cons (is_var rfl) (isA_cons is_c isA_nil)) ?_
              exact ⟨A, key, _, _, 1, rfl, h2, fun H3 h3 f3 => k H3 (by rw [e]; exact h3) ((Fr.pl.trans f2).trans f3)⟩
            · have c4 : ¬ (@Eq Nat (cellTo c x y d) 12 ∧ gems c = 0) := by
                intro z
                have e1 : (decide (((cellTo c x y d : Nat) : Int) = 12) && decide (((gems c : Nat) : Int) = 0)) = true := by
                  simp only [Bool.and_eq_true, decide_eq_true_eq]
                  omega
                exact absurd (hb.symm.trans e1) (by decide)
              rw [if_neg c4] at e
              exact s_next (k H (by rw [e]; exact h) (Fr.refl H))
end
end G

set_option Elab.async false
set_option linter.all false
set_option maxRecDepth 100000
set_option maxHeartbeats 4000000
namespace G
open PySem PySem.Spec PyProof.Rows L2
open Ge13 (at_ put gems beside cellTo Marks goTo playerTurn stoneTurn monsterTurn)
open Gm
open U

theorem ly_still {v : Nat} (h : 3 ≤ v ∧ v ≤ 6) : lyingOf (v : Int) = ((stillOf v : Nat) : Int) := by
  match v, h with
  | 3, _ | 4, _ | 5, _ | 6, _ => rfl
theorem fa_still {v : Nat} (h : 3 ≤ v ∧ v ≤ 6) : fallingOf (v : Int) = ((stillOf v + 1 : Nat) : Int) := by
  match v, h with
  | 3, _ | 4, _ | 5, _ | 6, _ => rfl
theorem fl_still {v : Nat} (h : 3 ≤ v ∧ v ≤ 6) : isFalling (v : Int) = decide (v = stillOf v + 1) := by
  match v, h with
  | 3, _ | 4, _ | 5, _ | 6, _ => rfl
theorem still_le (v : Nat) : stillOf v + 1 ≤ 12 := by unfold stillOf; split <;> decide
theorem fm4 (k : Nat) : ((k : Nat) : Int).fmod 4 = ((k % 4 : Nat) : Int) := by
  rw [Int.fmod_eq_emod_of_nonneg _ (by decide)]
  rfl
theorem s_forTup {K : PySem.W.Frag} {ta : L2.TA} {xs : List V} {g : TG} {tb : TS} {D : Ends} {σ : L2.St} {H : Hp} (h : IsA ta σ H xs) (hl : xs.length ≤ sizeLine)
    (k : ∀ p, H p = none → ∃ Pv : Nat → L2.St → Hp → Prop, Pv 0 σ (upd H p (.tup xs)) ∧ (∀ i σ H', i ≤ xs.length → Pv i σ H' → SqT K H' p xs) ∧
      (∀ i x σ H', xs[i]? = some x → Pv i σ H' → g x σ H' fun σ2 H2 => tb { D with nx := Pv (i + 1), ct := Pv (i + 1), bk := D.nx } σ2 H2) ∧ (∀ σ H', Pv xs.length σ H' → D.nx σ H')) : tFor (iTup K (tTup ta)) g tb D σ H :=
  h _ ⟨hl, fun p hp => ⟨p, rfl, ⟨xs, SqT.of upd_same⟩, let ⟨Pv, h0, hq, hs, hd⟩ := k p hp; for_tup Pv h0 hq hs hd⟩⟩
/-- if any([.. for x in t]): ..: the way behind it in a grown heap -/
theorem s_anyT {K : PySem.W.Frag} {σ : L2.St} {H : Hp} {tl te : TE} {p : Addr} {xs : List V} {s : Nat} {D : Ends} {g : V → Bool} {pp u : TS} (hl : Is tl σ H (.ref p)) (h : SqT K H p xs) (hn : xs.length ≤ 100000)
    (he : ∀ x ∈ xs, ∀ H', Same H H' → Is te ((σ.set s none).set s (some x)) H' (.bl (g x))) (k1 : ∀ H', Same H H' → xs.any g = true → pp { D with nx := u D } σ H') (k2 : ∀ H', Same H H' → xs.any g = false → u D σ H') :
    tSeq (tIfS (tB (tCB (rAny K) (tCons (tLc (iTup K tl) (gName s) tYes te [s]) tNil))) pp tNext) u D σ H :=
  anyT hl h hn he fun H' sm => ⟨_, rfl, by
    cases e : xs.any g with
    | true => exact iteT (k1 H' sm e)
    | false => exact iteF (k2 H' sm e)⟩
theorem le_c {a b : Nat} (h : (a : Int) ≤ (b : Int)) : a ≤ b := by omega
theorem c_le {a b : Nat} (h : a ≤ b) : (a : Int) ≤ (b : Int) := by omega
def spHit (K : PySem.W.Frag) (a : Ad) : Sp := fun vs H Q _ => ∃ (A : TA) (key : Nat) (c : Ge13.Cave) (m : Marks) (x y x' y' v : Nat), vs = [.ref A.t, iv (pos c x y), iv (pos c x' y')] ∧ x < c.w ∧ y < c.h ∧ x' < c.w ∧ y' < c.h ∧ at_ c x y = v ∧ (3 ≤ v ∧ v ≤ 6) ∧ m.length < 99990 ∧
  Goes K a A key H c { put (put c x y (stillOf v)) x' y' 5 with points := c.points + 20 } m ((x', y') :: m) Q
def look (c : Ge13.Cave) (p : Nat) : V → Bool
  | .int i => decide (atI (plc c) ((p : Int) + i) = some (iv 7))
  | _ => false
theorem iv_inj {n m : Nat} : iv n = iv m ↔ n = m := ⟨fun h => by have := V.int.inj h; omega, fun h => by rw [h]⟩
theorem look_to {K : PySem.W.Frag} {a : Ad} {A : TA} {key : Nat} {H : Hp} {c : Ge13.Cave} {m : Marks} (h : TickAt K a A key H c m) {x y d : Nat} (hx : x < c.w) (hy : y < c.h) : look c (pos c x y) (.int (Gm.step c d)) = decide (@Eq Nat (cellTo c x y d) 7) := by
  show decide (atI (plc c) (((pos c x y : Nat) : Int) + Gm.step c d) = some (iv 7)) = _
  rw [posTo_int, h.to hx hy]
  by_cases e : @Eq Nat (cellTo c x y d) 7
  · rw [decide_eq_true e, e]
    exact decide_eq_true rfl
  · rw [decide_eq_false e]
    exact decide_eq_false fun z => e (iv_inj.mp (Option.some.inj z))
theorem stepsV_is (c : Ge13.Cave) : stepsV c = [V.int (Gm.step c 0), V.int (Gm.step c 1), V.int (Gm.step c 2), V.int (Gm.step c 3)] := rfl
theorem look_any {K : PySem.W.Frag} {a : Ad} {A : TA} {key : Nat} {H : Hp} {c : Ge13.Cave} {m : Marks} (h : TickAt K a A key H c m) {x y : Nat} (hx : x < c.w) (hy : y < c.h) :
    (stepsV c).any (look c (pos c x y)) = (List.range 4).any fun e => cellTo c x y e == 7 := by
  rw [stepsV_is]
  simp only [List.any_cons, List.any_nil, look_to h hx hy]
  rfl
/-- what is at a place is a turn -/
def turned (key : Nat) (c : Ge13.Cave) (m : Marks) (x y : Nat) : Ge13.Cave × Marks :=
  if at_ c x y = 7 then playerTurn c m x y key else if 3 ≤ at_ c x y ∧ at_ c x y ≤ 6 then stoneTurn c m x y (at_ c x y) else if 8 ≤ at_ c x y ∧ at_ c x y ≤ 11 then monsterTurn c m x y (at_ c x y) else (c, m)
section
variable {P : Program} {w : World} {K : PySem.W.Frag} {mg : Str → Option Value} {base : Heap} {a : Ad} (T : Txt K mg a)
include T

theorem c_hit_monster : C8.Cal P w K mg base 3 "hit_monster" (spHit K a) [] := by
  obtain ⟨f, fd, F, b⟩ := T.d_hit_monster
  refine C8.cal0 F b .nil sc_hit_monster (fun vs H Q E h => ?len) (fun cdv A0 outer s H vs Q E hr h => ⟨_, (pss_cons (ps_asg (C8.pe_c (c_lying T) hr (by decide) (by rfl) (pa_cons (pe_ix ix_list (pe_fld (pv 0) rfl) (pv 1) (fun _ _ => rfl)) pa_nil)) (pg_sub (pe_fld (pv 0) rfl) (pv 1) set_list)) (pss_cons (ps_asg (C8.pe_gc (by rfl) T.g_LYING_GEM) (pg_sub (pe_fld (pv 0) rfl) (pv 2) set_list)) (pss_cons (ps_dput (hu_of hr) (pe_fld (pv 0) rfl) (pv 2) pe_bl rfl) (pss_one (ps_expr (C8.pe_c (c_score T) hr (by decide) (by rfl) (pa_cons (pv 0) (pa_cons (C8.pe_gc (by rfl) T.g_POINTS_FOR_MONSTER) pa_nil)))))))), ?rd⟩)
  case len => obtain ⟨A, key, c, m, x, y, x', y', v, rfl, _⟩ := h; rfl
  case rd =>
    obtain ⟨A, key, c, m, x, y, x', y', v, rfl, hx, hy, hx', hy', hv, hv36, hm, h, k⟩ := h
    subst hv
    have hs := still_le (at_ c x y)
    refine s_seq (s_setL (v := iv (stillOf (at_ c x y))) ?_ (is_tplaces T h (is_var rfl)) (is_var rfl) h.pl (h.ix hx hy) ?_)
    · show Is _ _ _ (.int ((stillOf (at_ c x y) : Nat) : Int))
      rw [← ly_still hv36]
      exact is_n (is_atPos T h (by omega) (by omega) (is_var rfl) (is_var rfl))
    have h1 := h.put hx hy (v := stillOf (at_ c x y)) (by omega)
    refine s_seq (s_setL (v := iv 5) is_c (is_tplaces T h1 (is_var rfl)) (is_var rfl) h1.pl (h1.ix hx' hy') ?_)
    have h2 := h1.put hx' hy' (v := 5) (by decide)
    obtain ⟨kvs, e, hk⟩ := h2.d
    refine s_seq (s_dput (k := .inl ((pos c x' y' : Nat) : Int)) is_c (is_thad T h2 (is_var rfl)) (is_var rfl) e ?_ ?_)
    · have := hk.1
      exact Nat.lt_trans (Nat.lt_of_le_of_lt this hm) (by decide)
    · have h3 := h2.mark e hk (y := y') hx'
      refine s_call (isA_cons (is_var rfl) (isA_cons is_c isA_nil)) ?_
      exact ⟨A, key, _, _, 20, rfl, h3, fun H4 h4 f4 => k H4 h4 (((Fr.pl.trans Fr.pl).trans Fr.d).trans f4)⟩
theorem c_roll : C8.Cal P w K mg base 3 "roll" (spT K a (fun _ c x y => 3 ≤ at_ c x y ∧ at_ c x y ≤ 6) (fun _ c m x y => rolled c m x y (at_ c x y))) [] := by
  obtain ⟨f, fd, F, b⟩ := T.d_roll
  refine C8.cal0 F b .nil sc_roll (fun vs H Q E h => ?len) (fun cdv A0 outer s H vs Q E hr h => ⟨_, (pss_cons (ps_set (i := 2) sc_roll.nd rfl (Or.inl rfl) (pe_ix ix_list (pe_fld (pv 0) rfl) (pv 1) (fun _ _ => rfl))) (pss_cons (ps_for PassesOwn.never rfl (pi_tup (pe_tup (pa_cons (C8.pe_gc (by rfl) T.g_LEFT) (pa_cons (C8.pe_gc (by rfl) T.g_RIGHT) pa_nil)))) (pg_name (i := 3) sc_roll.nd rfl (Or.inl rfl)) (pss_cons (ps_set (i := 4) sc_roll.nd rfl (Or.inl rfl) (pe_op op_add (pv 1) (pe_ix ix_tup (pe_fld (pv 0) rfl) (pv 3) (fun _ _ => rfl)))) (pss_cons (ps_set (i := 5) sc_roll.nd rfl (Or.inl rfl) (pe_op op_add (pv 4) (pe_ix ix_tup (pe_fld (pv 0) rfl) (C8.pe_gc (by rfl) T.g_DOWN) (fun _ _ => rfl)))) (pss_one (ps_if (PW.pt (pw_and (pt_cmpR op_eq (pe_ix ix_list (pe_fld (pv 0) rfl) (pv 4) (fun _ _ => rfl)) (C8.pe_gc (by rfl) T.g_NOTHING) (nomark _)) (pw_and1 (pt_cmpR op_eq (pe_ix ix_list (pe_fld (pv 0) rfl) (pv 5) (fun _ _ => rfl)) (C8.pe_gc (by rfl) T.g_NOTHING) (nomark _))))) (pss_cons (ps_expr (C8.pe_c (c_go T) hr (by decide) (by rfl) (pa_cons (pv 0) (pa_cons (pv 1) (pa_cons (pv 4) (pa_cons (C8.pe_c (c_falling T) hr (by decide) (by rfl) (pa_cons (pv 2) pa_nil)) pa_nil)))))) (pss_one ps_retN)) pss_nil))))) (pss_one (ps_asg (C8.pe_c (c_lying T) hr (by decide) (by rfl) (pa_cons (pv 2) pa_nil)) (pg_sub (pe_fld (pv 0) rfl) (pv 1) set_list))))), ?rd⟩)
  case len => obtain ⟨A, key, c, m, x, y, rfl, _⟩ := h; rfl
  case rd =>
    obtain ⟨A, key, c, m, x, y, rfl, hx, hy, hm, hv, h, k⟩ := h
    dsimp only at k hv
    have hs := still_le (at_ c x y)
    refine s_seq (s_set (is_atPos T h (by omega) (by omega) (is_var rfl) (is_var rfl)) ?_)
    generalize hv0 : at_ c x y = v at k hv hs
    refine s_seq (s_forTup (xs := [.int 2, .int 0]) (isA_cons is_c (isA_cons is_c isA_nil)) (by show 2 ≤ sizeLine; decide) fun p hp => ?_)
    have sm : Same H (upd H p (.tup [.int 2, .int 0])) := same_new hp
    have h1 := h.same sm
    generalize hH1 : upd H p (.tup [.int 2, .int 0]) = H1 at sm h1
    have hp1 : H1 p = some (.tup [.int 2, .int 0]) := by rw [← hH1, upd_same]
    refine ⟨fun i σ H' => H' = H1 ∧ (∃ u3 u4 u5 : Option V, σ = [some (.ref A.t), some (iv (pos c x y)), some (iv v), u3, u4, u5]) ∧
      (1 ≤ i → ¬ (cellTo c x y 2 = 0 ∧ cellTo c (beside c x y 2).1 (beside c x y 2).2 1 = 0)) ∧ (2 ≤ i → ¬ (cellTo c x y 0 = 0 ∧ cellTo c (x + 1) y 1 = 0)), ?_, ?_, ?_, ?_⟩
    · exact ⟨rfl, ⟨none, none, none, rfl⟩, by omega, by omega⟩
    · rintro i σ H' _ ⟨rfl, _⟩
      exact SqT.of hp1
    · -- one way
      have way : ∀ (d i : Nat) (u3 u4 u5 : Option V), d < 4 → ∀ D : Ends, (¬ (@Eq Nat (cellTo c x y d) 0 ∧ @Eq Nat (cellTo c (beside c x y d).1 (beside c x y d).2 1) 0) → ∀ σ, (∃ u3 u4 u5 : Option V, σ = [some (.ref A.t), some (iv (pos c x y)), some (iv v), u3, u4, u5]) → D.nx σ H1) →
          ((@Eq Nat (cellTo c x y d) 0 ∧ @Eq Nat (cellTo c (beside c x y d).1 (beside c x y d).2 1) 0) → ∀ H', TickAt K a A key H' (goTo c x y (beside c x y d) (stillOf v + 1)) (beside c x y d :: m) → Fr A H1 H' → D.rt .non H') →
          tSeq (tAsg (tOp (rI0 fun i j => .int (i + j)) (tVar 1) (tOp (rIxT K) (tFld K (tVar 0) "steps_to") (tVar 3))) (gName 4))
            (tSeq (tAsg (tOp (rI0 fun i j => .int (i + j)) (tVar 4) (tOp (rIxT K) (tFld K (tVar 0) "steps_to") (tC (.int 1)))) (gName 5))
              (tIfS (tAnd (tTest (tOp rEq (tOp (rIxL K) (tFld K (tVar 0) "places") (tVar 4)) (tC (.int 0)))) (tTest (tOp rEq (tOp (rIxL K) (tFld K (tVar 0) "places") (tVar 5)) (tC (.int 0)))))
                (tSeq (tDrop (tCall (spGo K a) [] C8.E0 (tCons (tVar 0) (tCons (tVar 1) (tCons (tVar 4) (tCons (tCall (thn fallingOf) [] C8.E0 (tCons (tVar 2) tNil)) tNil)))))) tRetN) tNext)) D
            [some (.ref A.t), some (iv (pos c x y)), some (iv v), some (iv d), u4, u5] H1 := by
        intro d i u3 u4 u5 hd D kn ky
        refine s_seq (s_set (is_there T h1 hd (is_var rfl) (is_var rfl) (is_var rfl)) ?_)
        refine s_seq (s_set (is_op0 (is_var rfl) (is_ixT (is_tsteps T h1 (is_var rfl)) is_c (SqT.of h1.tp) (steps_at (d := 1) (by decide)))) ?_)
        by_cases c1 : @Eq Nat (cellTo c x y d) 0
        · obtain ⟨hqx, hqy, eq⟩ := to_in hx hy (d := d) (by omega)
          rw [eq, posTo_int]
          refine s_if (isT_and (isT_t (is_eqI (is_ixL (is_tplaces T h1 (is_var rfl)) (is_var rfl) (SqL.of h1.pl) (h1.at_ (by omega) (by omega))) is_c)) (fun _ => isT_t (is_eqI (is_atTo T h1 hqx hqy (is_var rfl) (is_var rfl)) is_c))) (fun hb => ?_) (fun hb => ?_)
          · rw [Bool.and_eq_true] at hb
            have c2 : @Eq Nat (cellTo c (beside c x y d).1 (beside c x y d).2 1) 0 := n_t 0 hb.2
            refine s_seq (s_call (vs := [.ref A.t, iv (pos c x y), iv (pos c (beside c x y d).1 (beside c x y d).2), iv (stillOf v + 1)]) (isA_cons (is_var rfl) (isA_cons (is_var rfl) (isA_cons (is_var rfl) (isA_cons (is_to (is_n (is_var rfl)) (fa_still hv)) isA_nil)))) ?_)
            exact ⟨A, key, c, m, x, y, _, _, stillOf v + 1, rfl, hx, hy, hqx, hqy, by omega, by omega, h1, fun H2 h2 f2 => ky ⟨c1, c2⟩ H2 h2 f2⟩
          · refine s_next (kn (fun z => ?_) _ ⟨_, _, _, rfl⟩)
            have e0 : at_ c (beside c x y d).1 (beside c x y d).2 = 0 := c1
            rw [e0, z.2] at hb
            exact absurd hb (by decide)
        · have e0 : decide (((cellTo c x y d : Nat) : Int) = 0) = false := decide_eq_false fun z => c1 (by omega)
          dsimp only
          refine s_if (b := false) ?_ (fun hb => ?_) (fun hb => ?_)
          · intro Q' q
            refine (isT_t (is_eqI (is_atTo T h1 hx hy (is_var rfl) (is_var rfl)) is_c)) _ ?_
            rw [e0]
            exact iteF q
          · cases hb
          · exact s_next (kn (fun z => c1 z.1) _ ⟨_, _, _, rfl⟩)
      rintro i u σ H' hi ⟨rfl, ⟨u3, u4, u5, rfl⟩, k1, k2⟩
      match i, hi with
      | 0, hi =>
        cases hi
        refine way 2 0 u3 u4 u5 (by decide) _ (fun z σ hσ => ⟨rfl, hσ, fun _ => z, by omega⟩) (fun z H2 h2 f2 => ?_)
        refine k H2 ?_ ((Fr.same sm).trans f2)
        unfold rolled
        rw [if_pos z]
        exact h2
      | 1, hi =>
        cases hi
        refine way 0 1 u3 u4 u5 (by decide) _ (fun z σ hσ => ⟨rfl, hσ, fun _ => k1 (by omega), fun _ => z⟩) (fun z H2 h2 f2 => ?_)
        refine k H2 ?_ ((Fr.same sm).trans f2)
        unfold rolled
        rw [if_neg (k1 (by omega)), if_pos (show cellTo c x y 0 = 0 ∧ cellTo c (x + 1) y 1 = 0 from z)]
        exact h2
      | i + 2, hi => simp at hi
    · rintro σ H' ⟨rfl, ⟨u3, u4, u5, rfl⟩, k1, k2⟩
      refine s_setL (v := iv (stillOf v)) (is_to (is_n (is_var rfl)) (ly_still hv)) (is_tplaces T h1 (is_var rfl)) (is_var rfl) h1.pl (h1.ix hx hy) ?_
      have h2 := h1.put hx hy (v := stillOf v) (by omega)
      refine k _ ?_ ((Fr.same sm).trans Fr.pl)
      unfold rolled
      rw [if_neg (k1 (by decide)), if_neg (k2 (by decide))]
      exact h2
theorem fl_no {v : Nat} (h : 3 ≤ v ∧ v ≤ 6) (hb : isFalling (v : Int) = true) : v = stillOf v + 1 := of_decide_eq_true ((fl_still h).symm.trans hb)
theorem c_turn_loose : C8.Cal P w K mg base 4 "turn_loose" (spT K a (fun _ c x y => 3 ≤ at_ c x y ∧ at_ c x y ≤ 6) (fun _ c m x y => stoneTurn c m x y (at_ c x y))) [] := by
  obtain ⟨f, fd, F, b⟩ := T.d_turn_loose
  refine C8.cal0 F b .nil sc_turn_loose (fun vs H Q E h => ?len) (fun cdv A0 outer s H vs Q E hr h => ⟨_, (pss_cons (ps_set (i := 2) sc_turn_loose.nd rfl (Or.inl rfl) (pe_ix ix_list (pe_fld (pv 0) rfl) (pv 1) (fun _ _ => rfl))) (pss_cons (ps_set (i := 3) sc_turn_loose.nd rfl (Or.inl rfl) (pe_op op_add (pv 1) (pe_ix ix_tup (pe_fld (pv 0) rfl) (C8.pe_gc (by rfl) T.g_DOWN) (fun _ _ => rfl)))) (pss_cons (ps_set (i := 4) sc_turn_loose.nd rfl (Or.inl rfl) (pe_ix ix_list (pe_fld (pv 0) rfl) (pv 3) (fun _ _ => rfl))) (pss_one (ps_if (pt_cmpR op_eq (pv 4) (C8.pe_gc (by rfl) T.g_NOTHING) (nomark _)) (pss_one (ps_expr (C8.pe_c (c_go T) hr (by decide) (by rfl) (pa_cons (pv 0) (pa_cons (pv 1) (pa_cons (pv 3) (pa_cons (C8.pe_c (c_falling T) hr (by decide) (by rfl) (pa_cons (pv 2) pa_nil)) pa_nil))))))) (pss_one (ps_if (PW.pt (pw_and (pt_val (C8.pe_c (c_is_falling T) hr (by decide) (by rfl) (pa_cons (pv 2) pa_nil))) (pw_and1 (pt_cmpR op_eq (pv 4) (C8.pe_gc (by rfl) T.g_PLAYER) (nomark _))))) (pss_cons (ps_expr (C8.pe_c (c_go T) hr (by decide) (by rfl) (pa_cons (pv 0) (pa_cons (pv 1) (pa_cons (pv 3) (pa_cons (C8.pe_c (c_lying T) hr (by decide) (by rfl) (pa_cons (pv 2) pa_nil)) pa_nil)))))) (pss_one (ps_expr (C8.pe_c (c_end T) hr (by decide) (by rfl) (pa_cons (pv 0) (pa_cons (C8.pe_gc (by rfl) T.g_LOST) pa_nil)))))) (pss_one (ps_if (PW.pt (pw_and (pt_val (C8.pe_c (c_is_falling T) hr (by decide) (by rfl) (pa_cons (pv 2) pa_nil))) (pw_and1 (pt_val (C8.pe_c (c_is_monster T) hr (by decide) (by rfl) (pa_cons (pv 4) pa_nil)))))) (pss_one (ps_expr (C8.pe_c (c_hit_monster T) hr (by decide) (by rfl) (pa_cons (pv 0) (pa_cons (pv 1) (pa_cons (pv 3) pa_nil)))))) (pss_one (ps_if (pt_val (C8.pe_c (c_is_lying T) hr (by decide) (by rfl) (pa_cons (pv 4) pa_nil))) (pss_one (ps_expr (C8.pe_c (c_roll T) hr (by decide) (by rfl) (pa_cons (pv 0) (pa_cons (pv 1) pa_nil))))) (pss_one (ps_asg (C8.pe_c (c_lying T) hr (by decide) (by rfl) (pa_cons (pv 2) pa_nil)) (pg_sub (pe_fld (pv 0) rfl) (pv 1) set_list)))))))))))))), ?rd⟩)
  case len => obtain ⟨A, key, c, m, x, y, rfl, _⟩ := h; rfl
  case rd =>
    obtain ⟨A, key, c, m, x, y, rfl, hx, hy, hm, hv, h, k⟩ := h
    dsimp only at k hv
    have hs := still_le (at_ c x y)
    have e := stoneTurn_eq (c := c) (m := m) (x := x) (y := y) (v := at_ c x y)
    have fl := fl_still hv
    refine s_seq (s_set (is_atPos T h (by omega) (by omega) (is_var rfl) (is_var rfl)) ?_)
    refine s_seq (s_set (is_there T h (d := 1) (by decide) (is_var rfl) (is_var rfl) is_c) ?_)
    refine s_seq (s_set (is_atTo T h hx hy (is_var rfl) (is_var rfl)) ?_)
    refine s_if (isT_t (is_eqI (is_var rfl) is_c)) (fun hb => ?_) (fun hb => ?_)
    · have c1 : @Eq Nat (cellTo c x y 1) 0 := n_t 0 hb
      obtain ⟨hqx, hqy, eq⟩ := to_in hx hy (d := 1) (by omega)
      rw [if_pos c1] at e
      rw [eq]
      refine s_call (vs := [.ref A.t, iv (pos c x y), iv (pos c (beside c x y 1).1 (beside c x y 1).2), iv (stillOf (at_ c x y) + 1)]) (isA_cons (is_var rfl) (isA_cons (is_var rfl) (isA_cons (is_var rfl) (isA_cons (is_to (is_n (is_var rfl)) (fa_still hv)) isA_nil)))) ?_
      exact ⟨A, key, c, m, x, y, _, _, _, rfl, hx, hy, hqx, hqy, hs, by omega, h, fun H1 h1 f1 => k H1 (by rw [e]; exact h1) f1⟩
    · have c1 : ¬ @Eq Nat (cellTo c x y 1) 0 := n_f 0 hb
      rw [if_neg c1] at e
      refine s_if (isT_and (isT_v (is_g (is_var rfl))) (fun _ => isT_t (is_eqI (is_var rfl) is_c))) (fun hb => ?_) (fun hb => ?_)
      · rw [Bool.and_eq_true, fl] at hb
        have c2 : at_ c x y = stillOf (at_ c x y) + 1 ∧ @Eq Nat (cellTo c x y 1) 7 := ⟨of_decide_eq_true hb.1, n_t 7 hb.2⟩
        obtain ⟨hqx, hqy, eq⟩ := to_in hx hy (d := 1) (by omega)
        rw [if_pos c2] at e
        rw [eq]
        refine s_seq (s_call (vs := [.ref A.t, iv (pos c x y), iv (pos c (beside c x y 1).1 (beside c x y 1).2), iv (stillOf (at_ c x y))]) (isA_cons (is_var rfl) (isA_cons (is_var rfl) (isA_cons (is_var rfl) (isA_cons (is_to (is_n (is_var rfl)) (ly_still hv)) isA_nil)))) ?_)
        refine ⟨A, key, c, m, x, y, _, _, _, rfl, hx, hy, hqx, hqy, by omega, by omega, h, fun H1 h1 f1 => ?_⟩
        refine s_call (isA_cons (is_var rfl) (isA_cons is_c isA_nil)) ?_
        exact ⟨A, key, _, _, 2, rfl, h1, fun H2 h2 f2 => k H2 (by rw [e]; exact h2) (f1.trans f2)⟩
      · have c2 : ¬ (at_ c x y = stillOf (at_ c x y) + 1 ∧ @Eq Nat (cellTo c x y 1) 7) := fun z => by
          have e1 : (isFalling ((at_ c x y : Nat) : Int) && decide (((cellTo c x y 1 : Nat) : Int) = 7)) = true := by
            rw [fl, Bool.and_eq_true]
            exact ⟨decide_eq_true z.1, decide_eq_true (by have := z.2; omega)⟩
          exact absurd (hb.symm.trans e1) (by decide)
        rw [if_neg c2] at e
        refine s_if (isT_and (isT_v (is_g (is_var rfl))) (fun _ => isT_v (is_g (is_var rfl)))) (fun hb => ?_) (fun hb => ?_)
        · rw [Bool.and_eq_true, fl] at hb
          have hm' : 8 ≤ cellTo c x y 1 ∧ cellTo c x y 1 ≤ 11 := by
            have q := hb.2
            unfold isMonster at q
            rw [Bool.and_eq_true, decide_eq_true_eq, decide_eq_true_eq] at q
            exact ⟨le_c (by omega), le_c (by omega)⟩
          have hm8 := c_le hm'.1
          have c3 : at_ c x y = stillOf (at_ c x y) + 1 ∧ 8 ≤ cellTo c x y 1 ∧ cellTo c x y 1 ≤ 11 := ⟨of_decide_eq_true hb.1, hm'⟩
          obtain ⟨hqx, hqy, eq⟩ := to_in hx hy (d := 1) (fun z => by omega)
          rw [if_pos c3] at e
          rw [eq]
          refine s_call (isA_cons (is_var rfl) (isA_cons (is_var rfl) (isA_cons (is_var rfl) isA_nil))) ?_
          exact ⟨A, key, c, m, x, y, _, _, _, rfl, hx, hy, hqx, hqy, rfl, hv, hm, h, fun H1 h1 f1 => k H1 (by rw [e]; exact h1) f1⟩
        · have c3 : ¬ (at_ c x y = stillOf (at_ c x y) + 1 ∧ 8 ≤ cellTo c x y 1 ∧ cellTo c x y 1 ≤ 11) := fun z => by
            have e1 : (isFalling ((at_ c x y : Nat) : Int) && isMonster ((cellTo c x y 1 : Nat) : Int)) = true := by
              rw [fl, Bool.and_eq_true]
              refine ⟨decide_eq_true z.1, ?_⟩
              unfold isMonster
              have z1 := c_le z.2.1
              have z2 := c_le z.2.2
              rw [Bool.and_eq_true, decide_eq_true_eq, decide_eq_true_eq]
              omega
            exact absurd (hb.symm.trans e1) (by decide)
          rw [if_neg c3] at e
          refine s_if (isT_v (is_g (is_var rfl))) (fun hb => ?_) (fun hb => ?_)
          · have c4 : @Eq Nat (cellTo c x y 1) 3 ∨ @Eq Nat (cellTo c x y 1) 5 := by have := b_or hb; omega
            rw [if_pos c4] at e
            refine s_call (isA_cons (is_var rfl) (isA_cons (is_var rfl) isA_nil)) ?_
            exact ⟨A, key, c, m, x, y, rfl, hx, hy, hm, hv, h, fun H1 h1 f1 => k H1 (by rw [e]; exact h1) f1⟩
          · have c4 : ¬ (@Eq Nat (cellTo c x y 1) 3 ∨ @Eq Nat (cellTo c x y 1) 5) := by have := b_nor hb; omega
            rw [if_neg c4] at e
            refine s_setL (v := iv (stillOf (at_ c x y))) (is_to (is_n (is_var rfl)) (ly_still hv)) (is_tplaces T h (is_var rfl)) (is_var rfl) h.pl (h.ix hx hy) ?_
            have h2 := h.put hx hy (v := stillOf (at_ c x y)) (by omega)
            exact k _ (by rw [e]; exact h2) Fr.pl
theorem c_turn_monster : C8.Cal P w K mg base 2 "turn_monster" (spT K a (fun _ c x y => 8 ≤ at_ c x y ∧ at_ c x y ≤ 11) (fun _ c m x y => monsterTurn c m x y (at_ c x y))) [] := by
  obtain ⟨f, fd, F, b⟩ := T.d_turn_monster
  refine C8.cal0 F b .nil sc_turn_monster (fun vs H Q E h => ?len) (fun cdv A0 outer s H vs Q E hr h => ⟨_, (pss_cons (ps_if (pt_val (pe_callB (cr_any rfl) (by rfl) T.n_any (by decide +kernel) (pa_cons (pe_lc (own := [("step", 5)]) (g := gName 5) (tt := tYes) (te := tOp rEq (tOp (rIxL K) (tFld K (tVar 0) "places") (tOp (rI0 fun i j => .int (i + j)) (tVar 1) (tVar 5))) (tC (.int 7))) rfl sc_turn_monster.nd (pi_tup (pe_fld (pv 0) rfl)) (blkOk_by (own := [("step", 5)]) (N := nm_turn_monster) (sc := C8.fnScope s_turn_monster) (by decide +kernel)) (fun _ _ _ _ _ => (pg_name (i := 5) sc_turn_monster.nd rfl (Or.inl rfl))) (fun _ _ _ _ _ => pts_nil) (fun _ _ _ _ _ => (pe_cmpR op_eq (pe_ix ix_list (pe_fld (pv 0) rfl) (pe_op op_add (pv 1) (pv 5)) (fun _ _ => rfl)) (C8.pe_gc (by rfl) T.g_PLAYER) (nomark _)))) pa_nil))) (pss_cons (ps_expr (C8.pe_c (c_end T) hr (by decide) (by rfl) (pa_cons (pv 0) (pa_cons (C8.pe_gc (by rfl) T.g_LOST) pa_nil)))) (pss_one ps_retN)) pss_nil) (pss_cons (ps_set (i := 2) sc_turn_monster.nd rfl (Or.inl rfl) (pe_op op_sub (pe_ix ix_list (pe_fld (pv 0) rfl) (pv 1) (fun _ _ => rfl)) (C8.pe_gc (by rfl) T.g_MONSTER_RIGHT))) (pss_cons (ps_for PassesOwn.never rfl (pi_tup (pe_tup (pa_cons (pe_op op_modN (pe_op op_add (pv 2) pe_int) pe_int) (pa_cons (pv 2) pa_nil)))) (pg_name (i := 3) sc_turn_monster.nd rfl (Or.inl rfl)) (pss_cons (ps_set (i := 4) sc_turn_monster.nd rfl (Or.inl rfl) (pe_op op_add (pv 1) (pe_ix ix_tup (pe_fld (pv 0) rfl) (pv 3) (fun _ _ => rfl)))) (pss_one (ps_if (pt_cmpR op_eq (pe_ix ix_list (pe_fld (pv 0) rfl) (pv 4) (fun _ _ => rfl)) (C8.pe_gc (by rfl) T.g_NOTHING) (nomark _)) (pss_cons (ps_expr (C8.pe_c (c_go T) hr (by decide) (by rfl) (pa_cons (pv 0) (pa_cons (pv 1) (pa_cons (pv 4) (pa_cons (pe_op op_add (C8.pe_gc (by rfl) T.g_MONSTER_RIGHT) (pv 3)) pa_nil)))))) (pss_one ps_retN)) pss_nil)))) (pss_one (ps_asg (pe_op op_add (C8.pe_gc (by rfl) T.g_MONSTER_RIGHT) (pe_op op_modN (pe_op op_add (pv 2) pe_int) pe_int)) (pg_sub (pe_fld (pv 0) rfl) (pv 1) set_list)))))), ?rd⟩)
  case len => obtain ⟨A, key, c, m, x, y, rfl, _⟩ := h; rfl
  case rd =>
    obtain ⟨A, key, c, m, x, y, rfl, hx, hy, hm, hv, h, k⟩ := h
    dsimp only at k hv
    have hv8 := c_le hv.1
    have hv11 := c_le hv.2
    have e := monsterTurn_eq (c := c) (m := m) (x := x) (y := y) (v := at_ c x y)
    refine s_anyT (g := look c (pos c x y)) (is_tsteps T h (is_var rfl)) (SqT.of h.tp) (by show 4 ≤ 100000; decide) ?_ (fun H1 sm hb => ?_) (fun H1 sm hb => ?_)
    · intro u hu H' sm
      have h1 := h.same sm
      rw [stepsV_is] at hu
      have one : ∀ d : Nat, Is (tOp rEq (tOp (rIxL K) (tFld K (tVar 0) "places") (tOp (rI0 fun i j => .int (i + j)) (tVar 1) (tVar 5))) (tC (.int 7))) [some (.ref A.t), some (iv (pos c x y)), none, none, none, some (.int (Gm.step c d))] H' (.bl (look c (pos c x y) (.int (Gm.step c d)))) := fun d => by
        rw [look_to h hx hy]
        have q := is_eqI (tb := tC (.int 7)) (is_atTo T h1 hx hy (is_var (i := 0) rfl) (is_to (is_op0 (ta := tVar 1) (tb := tVar 5) (g := fun i j => .int (i + j)) (is_var (σ := [some (.ref A.t), some (iv (pos c x y)), none, none, none, some (.int (Gm.step c d))]) rfl) (is_var rfl)) (posTo_int c x y d))) is_c
        have e0 : decide (@Eq Nat (cellTo c x y d) 7) = decide (((cellTo c x y d : Nat) : Int) = 7) := by
          by_cases z : @Eq Nat (cellTo c x y d) 7
          · rw [decide_eq_true z, decide_eq_true (by omega)]
          · rw [decide_eq_false z, decide_eq_false (by omega)]
        rw [e0]
        exact q
      simp only [List.mem_cons, List.not_mem_nil, or_false] at hu
      rcases hu with rfl | rfl | rfl | rfl
      · exact one 0
      · exact one 1
      · exact one 2
      · exact one 3
    · rw [look_any h hx hy] at hb
      rw [if_pos hb] at e
      have h1 := h.same sm
      refine s_seq (s_call (isA_cons (is_var rfl) (isA_cons is_c isA_nil)) ?_)
      exact ⟨A, key, c, m, 2, rfl, h1, fun H2 h2 f2 => k H2 (by rw [e]; exact h2) ((Fr.same sm).trans f2)⟩
    · rw [look_any h hx hy] at hb
      rw [if_neg (by rw [hb]; decide)] at e
      have h1 := h.same sm
      obtain ⟨d, hat⟩ : ∃ d : Nat, @Eq Nat (at_ c x y) (8 + d) := ⟨(((at_ c x y : Nat) : Int) - 8).toNat, by omega⟩
      have ev : (((at_ c x y : Nat) : Int) - 8) = (d : Int) := by omega
      have e8 : @HSub.hSub Nat Nat Nat _ (at_ c x y) 8 = d := by rw [hat]; exact Nat.add_sub_cancel_left ..
      rw [e8] at e
      refine s_seq (s_set (is_to (is_op0 (is_atPos T h1 (by omega) (by omega) (is_var rfl) (is_var rfl)) is_c) ev) ?_)
      have hd4 : d < 4 := by omega
      have hl4 : (d + 3) % 4 < 4 := by omega
      have args : ∀ σ : L2.St, σ[2]? = some (some (iv d)) → IsA (tCons (tOp (rI (fun _ j => j ≠ 0) fun i j => .int (i.fmod j)) (tOp (rI0 fun i j => .int (i + j)) (tVar 2) (tC (.int 3))) (tC (.int 4))) (tCons (tVar 2) tNil)) σ H1 [iv ((d + 3) % 4), iv d] := fun σ hσ => by
        refine isA_cons (is_to (is_opI (is_op0 (is_var hσ) is_c) is_c (by decide)) ?_) (isA_cons (is_var hσ) isA_nil)
        show (((d + 3 : Nat)) : Int).fmod 4 = _
        exact fm4 _
      refine s_seq ?_
      refine s_forTup (args _ rfl) (by show 2 ≤ sizeLine; decide) fun p hp => ?_
      have sm2 := sm.trans (same_new hp (o := .tup [iv ((d + 3) % 4), iv d]))
      generalize hH2 : upd H1 p (.tup [iv ((d + 3) % 4), iv d]) = H2 at sm2
      have h2 := h.same sm2
      have hp2 : H2 p = some (.tup [iv ((d + 3) % 4), iv d]) := by rw [← hH2, upd_same]
      refine ⟨fun i σ H' => H' = H2 ∧ (∃ u3 u4 : Option V, σ = [some (.ref A.t), some (iv (pos c x y)), some (iv d), u3, u4, none]) ∧ (1 ≤ i → ¬ @Eq Nat (cellTo c x y ((d + 3) % 4)) 0) ∧ (2 ≤ i → ¬ @Eq Nat (cellTo c x y d) 0), ?_, ?_, ?_, ?_⟩
      · exact ⟨rfl, ⟨none, none, rfl⟩, by omega, by omega⟩
      · rintro i σ H' _ ⟨rfl, _⟩
        exact SqT.of hp2
      · rintro i u σ H' hi ⟨rfl, ⟨u3, u4, rfl⟩, k1, k2⟩
        match i, hi with
        | 0, hi =>
          cases hi
          refine s_seq (s_set (is_there T h2 hl4 (is_var rfl) (is_var rfl) (is_var rfl)) ?_)
          refine s_if (isT_t (is_eqI (is_atTo T h2 hx hy (is_var rfl) (is_var rfl)) is_c)) (fun hb => ?_) (fun hb => ?_)
          · have c1 : @Eq Nat (cellTo c x y ((d + 3) % 4)) 0 := n_t 0 hb
            obtain ⟨hqx, hqy, eq⟩ := to_in hx hy (d := (d + 3) % 4) (by omega)
            rw [if_pos c1] at e
            rw [eq]
            refine s_seq (s_call (vs := [.ref A.t, iv (pos c x y), iv (pos c (beside c x y ((d + 3) % 4)).1 (beside c x y ((d + 3) % 4)).2), iv (8 + (d + 3) % 4)]) (isA_cons (is_var rfl) (isA_cons (is_var rfl) (isA_cons (is_var rfl) (isA_cons (is_to (is_op0 is_c (is_var rfl)) (by omega)) isA_nil)))) ?_)
            exact ⟨A, key, c, m, x, y, _, _, _, rfl, hx, hy, hqx, hqy, by omega, by omega, h2, fun H3 h3 f3 => k H3 (by rw [e]; exact h3) ((Fr.same sm2).trans f3)⟩
          · exact s_next ⟨rfl, ⟨_, _, rfl⟩, fun _ => n_f 0 hb, by omega⟩
        | 1, hi =>
          cases hi
          have k1' := k1 (by omega)
          rw [if_neg k1'] at e
          refine s_seq (s_set (is_there T h2 hd4 (is_var rfl) (is_var rfl) (is_var rfl)) ?_)
          refine s_if (isT_t (is_eqI (is_atTo T h2 hx hy (is_var rfl) (is_var rfl)) is_c)) (fun hb => ?_) (fun hb => ?_)
          · have c1 : @Eq Nat (cellTo c x y d) 0 := n_t 0 hb
            obtain ⟨hqx, hqy, eq⟩ := to_in hx hy (d := d) (by omega)
            rw [if_pos c1] at e
            rw [eq]
            refine s_seq (s_call (vs := [.ref A.t, iv (pos c x y), iv (pos c (beside c x y d).1 (beside c x y d).2), iv (at_ c x y)]) (isA_cons (is_var rfl) (isA_cons (is_var rfl) (isA_cons (is_var rfl) (isA_cons (is_to (is_op0 is_c (is_var rfl)) (by rw [hat]; omega)) isA_nil)))) ?_)
            exact ⟨A, key, c, m, x, y, _, _, _, rfl, hx, hy, hqx, hqy, by omega, by omega, h2, fun H3 h3 f3 => k H3 (by rw [e]; exact h3) ((Fr.same sm2).trans f3)⟩
          · exact s_next ⟨rfl, ⟨_, _, rfl⟩, fun _ => k1', fun _ => n_f 0 hb⟩
        | i + 2, hi => simp at hi
      · rintro σ H' ⟨rfl, ⟨u3, u4, rfl⟩, k1, k2⟩
        rw [if_neg (k1 (by show 1 ≤ 2; decide)), if_neg (k2 (by show 2 ≤ 2; decide))] at e
        have val : ∀ σ : L2.St, σ[2]? = some (some (iv d)) → Is (tOp (rI0 fun i j => .int (i + j)) (tC (.int 8)) (tOp (rI (fun _ j => j ≠ 0) fun i j => .int (i.fmod j)) (tOp (rI0 fun i j => .int (i + j)) (tVar 2) (tC (.int 1))) (tC (.int 4)))) σ H' (iv (8 + (d + 1) % 4)) := fun σ hσ => by
          refine is_to (is_op0 is_c (is_opI (is_op0 (is_var hσ) is_c) is_c (by decide))) ?_
          show (8 : Int) + (((d + 1 : Nat)) : Int).fmod 4 = _
          rw [fm4]
          omega
        refine s_setL (val _ rfl) (is_tplaces T h2 (is_var rfl)) (is_var rfl) h2.pl (h2.ix hx hy) ?_
        have h3 := h2.put hx hy (v := 8 + (d + 1) % 4) (by omega)
        exact k _ (by rw [e]; exact h3) ((Fr.same sm2).trans Fr.pl)
theorem c_take_turn : C8.Cal P w K mg base 5 "take_turn" (spT K a (fun key _ _ _ => key ≤ 4) turned) [] := by
  obtain ⟨f, fd, F, b⟩ := T.d_take_turn
  refine C8.cal0 F b .nil sc_take_turn (fun vs H Q E h => ?len) (fun cdv A0 outer s H vs Q E hr h => ⟨_, (pss_cons (ps_set (i := 2) sc_take_turn.nd rfl (Or.inl rfl) (pe_ix ix_list (pe_fld (pv 0) rfl) (pv 1) (fun _ _ => rfl))) (pss_one (ps_if (pt_cmpR op_eq (pv 2) (C8.pe_gc (by rfl) T.g_PLAYER) (nomark _)) (pss_one (ps_expr (C8.pe_c (c_turn_player T) hr (by decide) (by rfl) (pa_cons (pv 0) (pa_cons (pv 1) pa_nil))))) (pss_one (ps_if (PW.pt (pw_or (pt_val (C8.pe_c (c_is_lying T) hr (by decide) (by rfl) (pa_cons (pv 2) pa_nil))) (pw_or1 (pt_val (C8.pe_c (c_is_falling T) hr (by decide) (by rfl) (pa_cons (pv 2) pa_nil)))))) (pss_one (ps_expr (C8.pe_c (c_turn_loose T) hr (by decide) (by rfl) (pa_cons (pv 0) (pa_cons (pv 1) pa_nil))))) (pss_one (ps_if (pt_val (C8.pe_c (c_is_monster T) hr (by decide) (by rfl) (pa_cons (pv 2) pa_nil))) (pss_one (ps_expr (C8.pe_c (c_turn_monster T) hr (by decide) (by rfl) (pa_cons (pv 0) (pa_cons (pv 1) pa_nil))))) pss_nil))))))), ?rd⟩)
  case len => obtain ⟨A, key, c, m, x, y, rfl, _⟩ := h; rfl
  case rd =>
    obtain ⟨A, key, c, m, x, y, rfl, hx, hy, hm, hk4, h, k⟩ := h
    unfold turned at k
    refine s_seq (s_set (is_atPos T h (by omega) (by omega) (is_var rfl) (is_var rfl)) ?_)
    refine s_if (isT_t (is_eqI (is_var rfl) is_c)) (fun hb => ?_) (fun hb => ?_)
    · have c1 : @Eq Nat (at_ c x y) 7 := n_t 7 hb
      rw [if_pos c1] at k
      refine s_call (isA_cons (is_var rfl) (isA_cons (is_var rfl) isA_nil)) ?_
      exact ⟨A, key, c, m, x, y, rfl, hx, hy, hm, ⟨c1, hk4⟩, h, k⟩
    · have c1 : ¬ @Eq Nat (at_ c x y) 7 := n_f 7 hb
      rw [if_neg c1] at k
      refine s_if (isT_or (isT_v (is_g (is_var rfl))) (fun _ => isT_v (is_g (is_var rfl)))) (fun hb => ?_) (fun hb => ?_)
      · have c2 : 3 ≤ at_ c x y ∧ at_ c x y ≤ 6 := by
          unfold isLying isFalling at hb
          simp only [Bool.or_eq_true, decide_eq_true_eq] at hb
          exact ⟨le_c (by omega), le_c (by omega)⟩
        rw [if_pos c2] at k
        refine s_call (isA_cons (is_var rfl) (isA_cons (is_var rfl) isA_nil)) ?_
        exact ⟨A, key, c, m, x, y, rfl, hx, hy, hm, c2, h, k⟩
      · have c2 : ¬ (3 ≤ at_ c x y ∧ at_ c x y ≤ 6) := fun z => by
          unfold isLying isFalling at hb
          simp only [Bool.or_eq_false_iff, decide_eq_false_iff_not] at hb
          have z1 := c_le z.1
          have z2 := c_le z.2
          omega
        rw [if_neg c2] at k
        refine s_if (isT_v (is_g (is_var rfl))) (fun hb => ?_) (fun hb => ?_)
        · have c3 : 8 ≤ at_ c x y ∧ at_ c x y ≤ 11 := by
            unfold isMonster at hb
            simp only [Bool.and_eq_true, decide_eq_true_eq] at hb
            exact ⟨le_c (by omega), le_c (by omega)⟩
          rw [if_pos c3] at k
          refine s_call (isA_cons (is_var rfl) (isA_cons (is_var rfl) isA_nil)) ?_
          exact ⟨A, key, c, m, x, y, rfl, hx, hy, hm, c3, h, k⟩
        · have c3 : ¬ (8 ≤ at_ c x y ∧ at_ c x y ≤ 11) := fun z => by
            unfold isMonster at hb
            simp only [Bool.and_eq_false_iff, decide_eq_false_iff_not] at hb
            have z1 := c_le z.1
            have z2 := c_le z.2
            omega
          rw [if_neg c3] at k
          exact s_next (k H h (Fr.refl H))
end
end G

set_option Elab.async false
set_option linter.all false
set_option maxRecDepth 100000
set_option maxHeartbeats 4000000
namespace G
open PySem PySem.Spec PyProof.Rows L2
open Ge13 (at_ put gems beside cellTo Marks goTo playerTurn stoneTurn monsterTurn)
open Gm
open U

/-! ### loops over ranges -/
section
variable {K : PySem.W.Frag} {σ : L2.St} {H : Hp} {D : Ends} {ta : L2.TA} {g : TG} {tb : TS}
theorem s_range1 {n : Nat} (h : IsA ta σ H [iv n]) (hn : n < 100000)
    (k : ∃ Pv : Nat → L2.St → Hp → Prop, Pv 0 σ H ∧ (∀ i σ H', i < n → Pv i σ H' → g (iv i) σ H' fun σ2 H2 => tb { D with nx := Pv (i + 1), ct := Pv (i + 1), bk := D.nx } σ2 H2) ∧ ∀ σ H', Pv n σ H' → D.nx σ H') : tFor (iRng1 ta) g tb D σ H :=
  h _ ⟨(n : Int), rfl, by omega, by omega, let ⟨Pv, h0, hs, hd⟩ := k; for_range (lo := 0) (n := ((n : Int)).toNat) Pv h0 (fun i σ H' hi p => by
    have e : (0 : Int) + (i : Int) = ((i : Nat) : Int) := by omega
    rw [e]
    exact hs i σ H' (by omega) p) (fun σ H' p => hd σ H' (by
      have e : ((n : Int)).toNat = n := by omega
      rw [e] at p
      exact p))⟩
theorem s_range2 {lo n : Nat} (h : IsA ta σ H [iv lo, iv (lo + n)]) (hl : lo < 100000) (hn : n < 100000)
    (k : ∃ Pv : Nat → L2.St → Hp → Prop, Pv 0 σ H ∧ (∀ i σ H', i < n → Pv i σ H' → g (iv (lo + i)) σ H' fun σ2 H2 => tb { D with nx := Pv (i + 1), ct := Pv (i + 1), bk := D.nx } σ2 H2) ∧ ∀ σ H', Pv n σ H' → D.nx σ H') : tFor (iRng2 ta) g tb D σ H :=
  h _ ⟨(lo : Int), ((lo + n : Nat) : Int), rfl, ⟨by omega, by omega, by omega, by omega⟩, let ⟨Pv, h0, hs, hd⟩ := k; for_range (lo := (lo : Int)) (n := (((lo + n : Nat) : Int) - (lo : Int)).toNat) Pv h0 (fun i σ H' hi p => by
    have e : (lo : Int) + (i : Int) = ((lo + i : Nat) : Int) := by omega
    rw [e]
    exact hs i σ H' (by omega) p) (fun σ H' p => hd σ H' (by
      have e : (((lo + n : Nat) : Int) - (lo : Int)).toNat = n := by omega
      rw [e] at p
      exact p))⟩
end
/-! ### making -/
def SameX (p : Addr) (H H' : Hp) : Prop := ∀ b o, H b = some o → b ≠ p → H' b = some o
theorem made_same {H H' : Hp} {x dx C : Addr} (nx : H x = none) (nd : H dx = none) (k : SameX x (upd (upd H dx (.own x)) x (.ins C dx [])) H') : Same H H' := Same.made nx nd k
/-- what an __init__ that only stores promises -/
def spFlds (K : PySem.W.Frag) (C : Addr) (mk : List V → Option (List (Str × V))) : Sp := fun vs H Q _ => ∃ (p dx : Addr) (us : List V) (fs : List (Str × V)), vs = .ref p :: us ∧ mk us = some fs ∧ H p = some (.ins C dx []) ∧ Q .non (upd H p (.ins C dx fs))
theorem mk_in {K : PySem.W.Frag} {C : Addr} {mk : List V → Option (List (Str × V))} {us : List V} {fs : List (Str × V)} {H : Hp} {Q : Addr → Hp → Prop} {E : XK} (e : mk us = some fs) (k : ∀ x H', H x = none → Same H H' → Ob K H' x C fs → Q x H') :
    ∀ x dx, H x = none → H dx = none → dx ≠ x → spFlds K C mk (.ref x :: (us ++ [])) (upd (upd H dx (.own x)) x (.ins C dx [])) (fun v H2 => v = .non ∧ Q x H2) E := fun x dx hx hd ne =>
  ⟨x, dx, us, fs, by rw [List.append_nil], e, upd_same, rfl, by
    rw [upd_upd]
    refine k x _ hx (fun b o h => ?_) ⟨dx, upd_same⟩
    rw [upd_ne (ne_of_none h hx), upd_ne (ne_of_none h hd)]
    exact h⟩
def mkCave : List V → Option (List (Str × V))
  | [u, v, w] => some [("wide", u), ("high", v), ("places", w)]
  | _ => none
def mkStanding : List V → Option (List (Str × V))
  | [u] => some [("cave", u), ("outcome", iv 0), ("points", iv 0)]
  | _ => none
def spTick (K : PySem.W.Frag) (a : Ad) : Sp := fun vs H Q _ => ∃ (p dx st cv pl : Addr) (w h o pt key : Nat), vs = [.ref p, .ref st, iv key] ∧ H p = some (.ins a.cTick dx []) ∧ Ob K H st a.cStanding (stdF cv o pt) ∧ Ob K H cv a.cCave (cavF w h pl) ∧
  ∀ (H' : Hp) (tp d : Addr), Ob K H' p a.cTick (tckF st pl tp d key) → H' tp = some (.tup (stepsW w)) → H' d = some (.dK []) → H d = none → SameX p H H' → Q .non H'
def spRunTick (K : PySem.W.Frag) (a : Ad) : Sp := fun vs H Q _ => ∃ (st cv pl : Addr) (c : Ge13.Cave) (key : Nat), vs = [.ref st, iv key] ∧ key ≤ 4 ∧ c.over = 0 ∧ Wf c ∧ Ob K H st a.cStanding (stdF cv c.over c.points) ∧ CavAt K a H cv pl c ∧
  ∀ H', Ob K H' st a.cStanding (stdF cv (Ge13.tick c key).over (Ge13.tick c key).points) → CavAt K a H' cv pl (Ge13.tick c key) → (∀ b o, H b = some o → b ≠ st → b ≠ pl → H' b = some o) → Q .non H'
theorem TickAt.of_same {K : PySem.W.Frag} {a : Ad} {A : TA} {key : Nat} {H : Hp} {c c' : Ge13.Cave} {m : Marks} (h : TickAt K a A key H c m) (e1 : c'.w = c.w) (e2 : c'.h = c.h) (e3 : c'.cells = c.cells) (e4 : c'.over = c.over) (e5 : c'.points = c.points) : TickAt K a A key H c' m where
  t := h.t
  st := by rw [e4, e5]; exact h.st
  cv := by rw [e1, e2]; exact h.cv
  pl := by rw [plc_same e1 e2 e3]; exact h.pl
  tp := by rw [show stepsV c' = stepsV c by unfold stepsV; rw [e1]]; exact h.tp
  d := by
    obtain ⟨kvs, e, k1, k2⟩ := h.d
    refine ⟨kvs, e, k1, fun x y hx hy => ?_⟩
    rw [show pos c' x y = pos c x y by unfold pos; rw [e1]]
    exact k2 x y (by rw [← e1]; exact hx) (by rw [← e2]; exact hy)
  wf := h.wf.same e1 e2 e3
theorem turnAt_no {key : Nat} {s : Ge13.Cave × Marks} {x y : Nat} (h : s.1.over = 0) (h2 : s.2.contains (x, y) = false) : turnAt key s x y = turned key s.1 s.2 x y := by
  unfold turnAt
  rw [if_neg (by rw [h, h2]; simp)]
  rfl
theorem turnAt_yes {key : Nat} {s : Ge13.Cave × Marks} {x y : Nat} (h2 : s.2.contains (x, y) = true) : turnAt key s x y = s := by
  unfold turnAt
  rw [if_pos (Or.inr h2)]
/-- what a store to a field asks once the value is there -/
def FldK (K : PySem.W.Frag) (ta : TE) (f : Str) (D : Ends) (σ : L2.St) (y : V) (H : Hp) : Prop := ta σ H fun x H2 => ∃ a C dx fs, x = .ref a ∧ H2 a = some (.ins C dx fs) ∧ Cls K C ∧ NoAttr K C f ∧ fs.length < 1000 ∧ D.nx σ (upd H2 a (.ins C dx (putF f y fs)))
section
variable {K : PySem.W.Frag} {σ : L2.St} {H : Hp} {D : Ends} {ta : TE} {t : L2.TA} {sp : Sp} {dvs vs : List V} {E : XK} {i : Nat} {C : Addr} {f : Str}
theorem s_fldCall (h : IsA t σ H vs) (k : sp (vs ++ dvs) H (fun y H1 => FldK K ta f D σ y H1) E) : sFld K ta (tCall sp dvs E t) f D σ H := h _ k
theorem s_fldNew (k : ∀ p, H p = none → FldK K ta f D σ (.ref p) (upd H p (.dK []))) : sFld K ta tDNewK f D σ H := k
theorem s_setCall (h : IsA t σ H vs) (k : sp (vs ++ dvs) H (fun y H1 => D.nx (σ.set i (some y)) H1) E) : tAsg (tCall sp dvs E t) (gName i) D σ H := h _ k
theorem s_retCall (h : IsA t σ H vs) (k : sp (vs ++ dvs) H D.rt E) : tRet (tCall sp dvs E t) D σ H := h _ k
theorem s_setMake (h : IsA t σ H vs) (k : ∀ x dx, H x = none → H dx = none → dx ≠ x → sp (.ref x :: (vs ++ dvs)) (upd (upd H dx (.own x)) x (.ins C dx [])) (fun v H2 => v = .non ∧ D.nx (σ.set i (some (.ref x))) H2) E) : tAsg (tMake C sp dvs E t) (gName i) D σ H := h _ k
end
theorem fld_in {K : PySem.W.Frag} {σ : L2.St} {H : Hp} {ta : TE} {D : Ends} {p C : Addr} {fs : List (Str × V)} {f : Str} {ns : List Str} {y : V} (ho : Is ta σ H (.ref p)) (h : Ob K H p C fs) (c : Ck K C ns) (hm : f ∈ ns) (hl : fs.length < 1000)
    (k : ∀ dx, H p = some (.ins C dx fs) → D.nx σ (upd H p (.ins C dx (putF f y fs)))) : FldK K ta f D σ y H :=
  ho _ (let ⟨dx, e⟩ := h; ⟨p, C, dx, fs, rfl, e, c.cl, c.na f hm, hl, k dx e⟩)
theorem upd_none {H : Hp} {p q : Addr} {o : HO} (h : upd H p o q = none) : q ≠ p ∧ H q = none := by
  by_cases e : q = p
  · subst e
    rw [upd_same] at h
    cases h
  · rw [upd_ne e] at h
    exact ⟨e, h⟩
section
variable {P : Program} {w : World} {K : PySem.W.Frag} {mg : Str → Option Value} {base : Heap} {a : Ad} (T : Txt K mg a)
include T

theorem c_Cave : C8.Mak P w K mg base 1 "Cave" a.cCave (spFlds K a.cCave mkCave) [] := by
  obtain ⟨f, fd, M, hm, F, b⟩ := T.d_Cave
  refine C8.mak0 M hm F b .nil sc_Cave_init (fun vs H Q E h => ?len) (fun cdv A0 outer s H vs Q E hr h => ⟨_, (pss_cons (ps_fld (pv 0) (pv 1) rfl) (pss_cons (ps_fld (pv 0) (pv 2) rfl) (pss_one (ps_fld (pv 0) (pv 3) rfl)))), ?rd⟩)
  case len =>
    obtain ⟨p, dx, us, fs, rfl, e, _⟩ := h
    match us, e with
    | [_, _, _], _ => rfl
  case rd =>
    obtain ⟨p, dx, us, fs, rfl, e, hp, k⟩ := h
    match us, e with
    | [u, v, w'], e =>
      cases e
      refine s_seq (s_fld (is_var rfl) (is_var rfl) ⟨dx, hp⟩ T.k_Cave (by decide) (by show 0 < 1000; decide) fun dx1 e1 => ?_)
      refine s_seq (s_fld (is_var rfl) (is_var rfl) ⟨dx1, upd_same⟩ T.k_Cave (by decide) (by show 1 < 1000; decide) fun dx2 e2 => ?_)
      refine s_fld (is_var rfl) (is_var rfl) ⟨dx2, upd_same⟩ T.k_Cave (by decide) (by show 2 < 1000; decide) fun dx3 e3 => ?_
      rw [upd_upd, upd_upd]
      have q1 : dx1 = dx := by rw [hp] at e1; injection e1 with z; injection z with _ z; exact z.symm
      have q2 : dx2 = dx1 := by rw [upd_same] at e2; injection e2 with z; injection z with _ z; exact z.symm
      have q3 : dx3 = dx2 := by rw [upd_same] at e3; injection e3 with z; injection z with _ z; exact z.symm
      rw [q3, q2, q1]
      exact k
theorem c_Standing : C8.Mak P w K mg base 1 "Standing" a.cStanding (spFlds K a.cStanding mkStanding) [] := by
  obtain ⟨f, fd, M, hm, F, b⟩ := T.d_Standing
  refine C8.mak0 M hm F b .nil sc_Standing_init (fun vs H Q E h => ?len) (fun cdv A0 outer s H vs Q E hr h => ⟨_, (pss_cons (ps_fld (pv 0) (pv 1) rfl) (pss_cons (ps_fld (pv 0) (C8.pe_gc (by rfl) T.g_GOES_ON) rfl) (pss_one (ps_fld (pv 0) pe_int rfl)))), ?rd⟩)
  case len =>
    obtain ⟨p, dx, us, fs, rfl, e, _⟩ := h
    match us, e with
    | [_], _ => rfl
  case rd =>
    obtain ⟨p, dx, us, fs, rfl, e, hp, k⟩ := h
    match us, e with
    | [u], e =>
      cases e
      refine s_seq (s_fld (is_var rfl) (is_var rfl) ⟨dx, hp⟩ T.k_Standing (by decide) (by show 0 < 1000; decide) fun dx1 e1 => ?_)
      refine s_seq (s_fld is_c (is_var rfl) ⟨dx1, upd_same⟩ T.k_Standing (by decide) (by show 1 < 1000; decide) fun dx2 e2 => ?_)
      refine s_fld is_c (is_var rfl) ⟨dx2, upd_same⟩ T.k_Standing (by decide) (by show 2 < 1000; decide) fun dx3 e3 => ?_
      rw [upd_upd, upd_upd]
      have q1 : dx1 = dx := by rw [hp] at e1; injection e1 with z; injection z with _ z; exact z.symm
      have q2 : dx2 = dx1 := by rw [upd_same] at e2; injection e2 with z; injection z with _ z; exact z.symm
      have q3 : dx3 = dx2 := by rw [upd_same] at e3; injection e3 with z; injection z with _ z; exact z.symm
      rw [q3, q2, q1]
      exact k
theorem c_Tick : C8.Mak P w K mg base 3 "Tick" a.cTick (spTick K a) [] := by
  obtain ⟨f, fd, M, hm, F, b⟩ := T.d_Tick
  refine C8.mak0 M hm F b .nil sc_Tick_init (fun vs H Q E h => ?len) (fun cdv A0 outer s H vs Q E hr h => ⟨_, (pss_cons (ps_fld (pv 0) (pv 1) rfl) (pss_cons (ps_fld (pv 0) (pe_fld (pe_fld (pv 1) rfl) rfl) rfl) (pss_cons (ps_fld (pv 0) (C8.pe_c (c_steps T) hr (by decide) (by rfl) (pa_cons (pe_fld (pv 1) rfl) pa_nil)) rfl) (pss_cons (ps_fld (pv 0) (pv 2) rfl) (pss_one (ps_fld (pv 0) pe_dnewK rfl)))))), ?rd⟩)
  case len => obtain ⟨p, dx, st, cv, pl, w, h, o, pt, key, rfl, _⟩ := h; rfl
  case rd =>
    obtain ⟨p, dx, st, cv, pl, w', hh, o, pt, key, rfl, hp, hst, hcv, k⟩ := h
    have npst : st ≠ p := by
      obtain ⟨d1, e1⟩ := hst
      exact ne_of e1 hp fun z => lk_ne "cave" rfl l_cave z.symm
    have npcv : cv ≠ p := by
      obtain ⟨d1, e1⟩ := hcv
      exact ne_of e1 hp fun z => lk_ne "wide" rfl l_wide z.symm
    have up : ∀ {H' : Hp} {q C : Addr} {fs : List (Str × V)} {u : HO}, q ≠ p → Ob K H' q C fs → Ob K (upd H' p u) q C fs := fun hq ⟨d1, e1⟩ => ⟨d1, by rw [upd_ne hq]; exact e1⟩
    refine s_seq (s_fld (is_var rfl) (is_var rfl) ⟨dx, hp⟩ T.k_Tick (by decide) (by show 0 < 1000; decide) fun dx1 e1 => ?_)
    have st1 := up (u := .ins a.cTick dx1 (putF "standing" (.ref st) [])) npst hst
    have cv1 := up (u := .ins a.cTick dx1 (putF "standing" (.ref st) [])) npcv hcv
    refine s_seq (s_fld (is_fld (is_fld (is_var rfl) st1 T.k_Standing (by decide) l_cave) cv1 T.k_Cave (by decide) l_places) (is_var rfl) ⟨dx1, upd_same⟩ T.k_Tick (by decide) (by show 1 < 1000; decide) fun dx2 e2 => ?_)
    rw [upd_upd]
    generalize hF2 : (HO.ins a.cTick dx2 (putF "places" (.ref pl) (putF "standing" (.ref st) []))) = F2
    have st2 := up (u := F2) npst hst
    have cv2 := up (u := F2) npcv hcv
    refine s_seq (s_fldCall (isA_cons (is_fld (is_var rfl) st2 T.k_Standing (by decide) l_cave) isA_nil) ⟨cv, pl, w', hh, rfl, cv2, fun tp htp => ?_⟩)
    obtain ⟨ntp, htp0⟩ := upd_none htp
    refine fld_in (is_var rfl) (fs := putF "places" (.ref pl) (putF "standing" (.ref st) [])) ⟨dx2, by rw [upd_ne ntp.symm, upd_same, hF2]⟩ T.k_Tick (by decide) (by show 2 < 1000; decide) fun dx3 e3 => ?_
    refine s_seq (s_fld (is_var rfl) (is_var rfl) ⟨dx3, upd_same⟩ T.k_Tick (by decide) (by show 3 < 1000; decide) fun dx4 e4 => ?_)
    rw [upd_upd]
    refine s_fldNew fun d hd => ?_
    obtain ⟨nd1, hd1⟩ := upd_none hd
    obtain ⟨nd2, hd2⟩ := upd_none hd1
    obtain ⟨nd3, hd3⟩ := upd_none hd2
    refine fld_in (is_var rfl) (fs := putF "key" (iv key) (putF "steps_to" (.ref tp) (putF "places" (.ref pl) (putF "standing" (.ref st) [])))) ⟨dx4, by rw [upd_ne nd1.symm, upd_same]⟩ T.k_Tick (by decide) (by show 4 < 1000; decide) fun dx5 e5 => ?_
    refine k _ tp d ⟨dx5, by rw [upd_same]; rfl⟩ ?_ ?_ hd3 fun b o hb nb => ?_
    · rw [upd_ne ntp, upd_ne nd2.symm, upd_ne ntp, upd_same]
    · rw [upd_ne nd1, upd_same]
    · rw [upd_ne nb, upd_ne (ne_of_none hb hd3), upd_ne nb, upd_ne (ne_of_none hb htp0), upd_ne nb]
      exact hb
theorem c_run_tick : C8.Cal P w K mg base 6 "run_tick" (spRunTick K a) [] := by
  obtain ⟨f, fd, F, b⟩ := T.d_run_tick
  refine C8.cal0 F b .nil sc_run_tick (fun vs H Q E h => ?len) (fun cdv A0 outer s H vs Q E hr h => ⟨_, (pss_cons (ps_set (i := 2) sc_run_tick.nd rfl (Or.inl rfl) (pe_fld (pv 0) rfl)) (pss_cons (ps_set (i := 3) sc_run_tick.nd rfl (Or.inl rfl) (C8.pe_mk (c_Tick T) hr (by decide) (by rfl) (pa_cons (pv 0) (pa_cons (pv 1) pa_nil)))) (pss_one (ps_for PassesOwn.never rfl (pi_range1 (by rfl) T.n_range (pa_cons (pe_fld (pv 2) rfl) pa_nil)) (pg_name (i := 4) sc_run_tick.nd rfl (Or.inl rfl)) (pss_cons (ps_set (i := 5) sc_run_tick.nd rfl (Or.inl rfl) (C8.pe_c (c_row_begin T) hr (by decide) (by rfl) (pa_cons (pv 2) (pa_cons (pv 4) pa_nil)))) (pss_one (ps_for PassesOwn.never rfl (pi_range2 (by rfl) T.n_range (pa_cons (pv 5) (pa_cons (pe_op op_add (pv 5) (pe_fld (pv 2) rfl)) pa_nil))) (pg_name (i := 6) sc_run_tick.nd rfl (Or.inl rfl)) (pss_cons (ps_if (pt_val (C8.pe_c (c_is_over T) hr (by decide) (by rfl) (pa_cons (pv 0) pa_nil))) (pss_one ps_retN) pss_nil) (pss_one (ps_if (pt_cmp (pc_dnotin (hu_of hr) (pv 6) (pe_fld (pv 3) rfl))) (pss_one (ps_expr (C8.pe_c (c_take_turn T) hr (by decide) (by rfl) (pa_cons (pv 3) (pa_cons (pv 6) pa_nil))))) pss_nil)))))))))), ?rd⟩)
  case len => obtain ⟨st, cv, pl, c, key, rfl, _⟩ := h; rfl
  case rd =>
    obtain ⟨st, cv, pl, c, key, rfl, hk4, h0, hwf, hst, hcv, k⟩ := h
    refine s_seq (s_set (is_fld (is_var rfl) hst T.k_Standing (by decide) l_cave) ?_)
    refine s_seq (s_setMake (isA_cons (is_var rfl) (isA_cons (is_var rfl) isA_nil)) fun x dx hx hdx ndx => ?_)
    have sm0 : Same H (upd (upd H dx (.own x)) x (.ins a.cTick dx [])) := fun b o hb => by
      rw [upd_ne (ne_of_none hb hx), upd_ne (ne_of_none hb hdx)]
      exact hb
    refine ⟨x, dx, st, cv, pl, c.w, c.h, c.over, c.points, key, rfl, upd_same, ob_same hst sm0, ob_same hcv.ob sm0, fun H1 tp d ht htp hd hd0 sx => ⟨rfl, ?_⟩⟩
    have sm : Same H H1 := made_same hx hdx sx
    have dn : H d = none := by
      cases e : H d with
      | none => rfl
      | some o =>
        rw [sm0 d o e] at hd0
        cases hd0
    have t0 : TickAt K a ⟨x, st, cv, pl, tp, d⟩ key H1 (first c).1 (first c).2 := TickAt.of_same (c := c) ⟨ht, ob_same hst sm, ob_same hcv.ob sm, sm _ _ hcv.ls, htp, ⟨[], hd, Nat.le_refl _, fun _ _ _ _ => rfl⟩, hwf⟩ rfl rfl rfl rfl rfl
    generalize hA : (⟨x, st, cv, pl, tp, d⟩ : TA) = A at t0
    have eA1 : A.t = x := by rw [← hA]
    have eA2 : A.st = st := by rw [← hA]
    have eA3 : A.cv = cv := by rw [← hA]
    have eA4 : A.pl = pl := by rw [← hA]
    have eA5 : A.d = d := by rw [← hA]
    have fin : ∀ H' n, n = c.w * c.h → TickAt K a A key H' (upTo c key n).1 (upTo c key n).2 → Fr A H1 H' → Q .non H' := fun H' n en h' f' => by
      subst en
      have e : Ge13.tick c key = (upTo c key (c.w * c.h)).1 := by rw [tick_upTo, if_neg (by rw [h0]; simp)]
      have q1 := h'.st
      have q2 := h'.cav
      rw [eA2, eA3] at q1
      rw [eA3, eA4] at q2
      refine k H' (by rw [e]; exact q1) (by rw [e]; exact q2) fun b o hb n1 n2 => f' b o (sm b o hb) (by rw [eA2]; exact n1) (by rw [eA4]; exact n2) ?_
      rw [eA5]
      exact ne_of_none hb dn
    have size : c.w * c.h ≤ 280 := Nat.le_trans (Nat.mul_le_mul hwf.w20 hwf.h14) (by decide)
    have leave : ∀ H' n, n ≤ c.w * c.h → (upTo c key n).1.over ≠ 0 → TickAt K a A key H' (upTo c key n).1 (upTo c key n).2 → Fr A H1 H' → Q .non H' := fun H' n hn ho h' f' => by
      have e := upTo_over ho (c.w * c.h - n)
      have e2 : n + (c.w * c.h - n) = c.w * c.h := by omega
      rw [← e] at h'
      exact fin H' _ e2 h' f'
    have hcv1 : Ob K H1 cv a.cCave (cavF c.w c.h pl) := ob_same hcv.ob sm
    refine s_range1 (n := c.h) (isA_cons (is_fld (is_var rfl) hcv1 T.k_Cave (by decide) l_high) isA_nil) (by have := hwf.h14; omega) ?_
    refine ⟨fun y σ H' => (∃ u4 u5 u6 : Option V, σ = [some (.ref st), some (iv key), some (.ref cv), some (.ref x), u4, u5, u6]) ∧ TickAt K a A key H' (upTo c key (y * c.w)).1 (upTo c key (y * c.w)).2 ∧ Fr A H1 H', ?_, ?_, ?_⟩
    · refine ⟨⟨none, none, none, rfl⟩, ?_, Fr.refl H1⟩
      rw [Nat.zero_mul]
      exact t0
    · rintro y σ H' hy ⟨⟨u4, u5, u6, rfl⟩, hT, hF⟩
      obtain ⟨kw, kh, _, kwf, kml⟩ := upTo_kp c key (y * c.w)
      have hcv' := hT.cv
      rw [kw, kh, eA3, eA4] at hcv'
      refine s_seq (s_set (is_call (isA_cons (is_var rfl) (isA_cons (is_var rfl) isA_nil)) (v := iv (pos c 0 y)) fun Q' E' q => ⟨cv, pl, c.w, c.h, y, rfl, by have := hwf.h14; omega, hcv', q⟩) ?_)
      have hlo : pos c 0 y < 100000 := Nat.lt_of_lt_of_le (pos_lt c (by omega) (by omega)) (Nat.le_trans hwf.size (by decide))
      refine s_range2 (lo := pos c 0 y) (n := c.w) (isA_cons (is_var rfl) (isA_cons (is_to (is_op0 (is_var rfl) (is_fld (is_var rfl) hcv' T.k_Cave (by decide) l_wide)) (by omega)) isA_nil)) hlo (by have := hwf.w20; omega) ?_
      refine ⟨fun i σ H' => (∃ u6 : Option V, σ = [some (.ref st), some (iv key), some (.ref cv), some (.ref x), some (iv y), some (iv (pos c 0 y)), u6]) ∧ TickAt K a A key H' (upTo c key (y * c.w + i)).1 (upTo c key (y * c.w + i)).2 ∧ Fr A H1 H', ?_, ?_, ?_⟩
      · exact ⟨⟨u6, rfl⟩, hT, hF⟩
      · rintro i σ H2 hi ⟨⟨u6, rfl⟩, hT2, hF2⟩
        have ep : pos c 0 y + i = pos c i y := by unfold pos; omega
        rw [ep]
        have hn : y * c.w + i < c.h * c.w := by
          have : (y + 1) * c.w ≤ c.h * c.w := Nat.mul_le_mul_right _ (by omega)
          rw [Nat.add_mul] at this
          omega
        have hn' : y * c.w + i < c.w * c.h := by rw [Nat.mul_comm c.w]; exact hn
        obtain ⟨kw2, kh2, _, kwf2, kml2⟩ := upTo_kp c key (y * c.w + i)
        have em : (y * c.w + i) % c.w = i := by rw [Nat.add_comm, Nat.add_mul_mod_self_right, Nat.mod_eq_of_lt hi]
        have ed : (y * c.w + i) / c.w = y := by
          have hw0 : 0 < c.w := by omega
          rw [Nat.add_comm, Nat.add_mul_div_right _ _ hw0, Nat.div_eq_of_lt hi, Nat.zero_add]
        have es := upTo_succ c key (y * c.w + i)
        rw [em, ed] at es
        have hst2 := hT2.st
        rw [eA2, eA3] at hst2
        refine s_guard (isT_v (is_call (isA_cons (is_var rfl) isA_nil) fun Q' E' q => ⟨st, cv, _, _, rfl, hst2, q⟩)) (fun hb => ?_) (fun hb => ?_)
        · have ho : (upTo c key (y * c.w + i)).1.over ≠ 0 := by
            intro z
            rw [z] at hb
            exact absurd hb (by decide)
          exact leave H2 _ (by omega) ho hT2 hF2
        · have ho : (upTo c key (y * c.w + i)).1.over = 0 := by
            apply Classical.byContradiction
            intro z
            have e1 : (!decide ((((upTo c key (y * c.w + i)).1.over : Nat) : Int) = 0)) = true := by
              rw [decide_eq_false (by omega)]
              rfl
            exact absurd (hb.symm.trans e1) (by decide)
          obtain ⟨kvs, hkv, hmk⟩ := hT2.d
          have hc := hmk.2 i y (by rw [kw2]; exact hi) (by rw [kh2]; exact hy)
          rw [show pos (upTo c key (y * c.w + i)).1 i y = pos c i y by unfold pos; rw [kw2]] at hc
          refine s_if (isT_v (is_dnotin (k := .inl ((pos c i y : Nat) : Int)) (is_var rfl) (is_thad T hT2 (by rw [eA1]; exact is_var rfl)) hkv)) (fun hb => ?_) (fun hb => ?_)
          · have hno : (upTo c key (y * c.w + i)).2.contains (i, y) = false := by
              rw [hc] at hb
              simpa using hb
            have et := turnAt_no (key := key) ho hno
            refine s_call (isA_cons (is_var rfl) (isA_cons (is_var rfl) isA_nil)) ?_
            refine ⟨A, key, _, _, i, y, by rw [eA1, show pos (upTo c key (y * c.w + i)).1 i y = pos c i y by unfold pos; rw [kw2]]; rfl, by rw [kw2]; exact hi, by rw [kh2]; exact hy, by omega, hk4, hT2, fun H3 h3 f3 => ?_⟩
            refine ⟨⟨_, rfl⟩, ?_, hF2.trans f3⟩
            rw [← Nat.add_assoc, es, et]
            exact h3
          · have hyes : (upTo c key (y * c.w + i)).2.contains (i, y) = true := by
              rw [hc] at hb
              simpa using hb
            refine s_next ⟨⟨_, rfl⟩, ?_, hF2⟩
            rw [← Nat.add_assoc, es, turnAt_yes hyes]
            exact hT2
      · rintro σ H2 ⟨⟨u6, rfl⟩, hT2, hF2⟩
        refine ⟨⟨_, _, _, rfl⟩, ?_, hF2⟩
        rw [Nat.add_mul, Nat.one_mul]
        exact hT2
    · rintro σ H' ⟨⟨u4, u5, u6, rfl⟩, hT, hF⟩
      exact fin H' _ (Nat.mul_comm _ _) hT hF
end
end G

set_option Elab.async false
set_option linter.all false
set_option maxRecDepth 100000
set_option maxHeartbeats 4000000
namespace G
open PySem PySem.Spec PyProof.Rows L2
open Ge13 (at_ put gems beside cellTo Marks goTo playerTurn stoneTurn monsterTurn)
open Gm
open U

def gamF (so l : Addr) (lo tp held : Nat) : List (Str × V) := [("stood", .ref so), ("pressed", .ref l), ("left_over", iv lo), ("tick_parts", iv tp), ("held", iv held)]
theorem l_stood {so l lo tp held} : (gamF so l lo tp held).lookup ("stood" : Str) = some (.ref so) := by rfl
theorem l_pressed {so l lo tp held} : (gamF so l lo tp held).lookup ("pressed" : Str) = some (.ref l) := by rfl
theorem l_left {so l lo tp held} : (gamF so l lo tp held).lookup ("left_over" : Str) = some (iv lo) := by rfl
theorem l_parts {so l lo tp held} : (gamF so l lo tp held).lookup ("tick_parts" : Str) = some (iv tp) := by rfl
theorem l_held {so l lo tp held} : (gamF so l lo tp held).lookup ("held" : Str) = some (iv held) := by rfl
theorem p_stood {so l lo tp held n} : putF "stood" (.ref n) (gamF so l lo tp held) = gamF n l lo tp held := by rfl
theorem p_pressed {so l lo tp held n} : putF "pressed" (.ref n) (gamF so l lo tp held) = gamF so n lo tp held := by rfl
theorem p_left {so l lo tp held n} : putF "left_over" (iv n) (gamF so l lo tp held) = gamF so l n tp held := by rfl
theorem p_parts {so l lo tp held n} : putF "tick_parts" (iv n) (gamF so l lo tp held) = gamF so l lo n held := by rfl
theorem p_held {so l lo tp held n} : putF "held" (iv n) (gamF so l lo tp held) = gamF so l lo tp n := by rfl
theorem gam_std {C C' dx dx' : Addr} {so l lo tp held c o p} : HO.ins C dx (gamF so l lo tp held) ≠ HO.ins C' dx' (stdF c o p) := lk_ne "cave" rfl l_cave
theorem gam_cav {C C' dx dx' : Addr} {so l lo tp held w h q} : HO.ins C dx (gamF so l lo tp held) ≠ HO.ins C' dx' (cavF w h q) := lk_ne "wide" rfl l_wide
theorem CavAt.ne {K : PySem.W.Frag} {a : Ad} {H : Hp} {cv pl p : Addr} {c : Ge13.Cave} {u : HO} (h : CavAt K a H cv pl c) (h1 : cv ≠ p) (h2 : pl ≠ p) : CavAt K a (upd H p u) cv pl c := by
  obtain ⟨⟨dx, e⟩, l⟩ := h
  exact ⟨⟨dx, by rw [upd_ne h1]; exact e⟩, by rw [upd_ne h2]; exact l⟩
theorem ob_up {K : PySem.W.Frag} {H : Hp} {q C p : Addr} {fs : List (Str × V)} {u : HO} (h : Ob K H q C fs) (n : q ≠ p) : Ob K (upd H p u) q C fs := by
  obtain ⟨dx, e⟩ := h
  exact ⟨dx, by rw [upd_ne n]; exact e⟩
def rListOf (K : PySem.W.Frag) : List V → Hp → VK → Prop := fun xs H Q => ∃ p ys, xs = [.ref p] ∧ (SqL K H p ys ∨ SqT K H p ys) ∧ ∀ l, H l = none → Q (.ref l) (upd H l (.lst ys))
theorem SameX.of {p : Addr} {H H' : Hp} (s : Same H H') : SameX p H H' := fun b o h _ => s b o h
theorem SameX.trans {p : Addr} {H H1 H2 : Hp} (s : SameX p H H1) (t : SameX p H1 H2) : SameX p H H2 := fun b o h n => t b o (s b o h n) n
theorem SameX.upd {p : Addr} {H : Hp} {o : HO} : SameX p H (upd H p o) := fun b u h n => by rw [upd_ne n]; exact h
theorem SameX.free {p q : Addr} {H H' : Hp} {o : HO} (s : SameX p H H') (hp : H' p = some o) (h : H' q = none) : H q = none := by
  cases e : H q with
  | none => rfl
  | some u =>
    have n : q ≠ p := fun z => by
      rw [z, hp] at h
      cases h
    rw [s q u e n] at h
    cases h
theorem SameX.ob {K : PySem.W.Frag} {p q C : Addr} {H H' : Hp} {fs : List (Str × V)} (s : SameX p H H') (h : Ob K H q C fs) (n : q ≠ p) : Ob K H' q C fs := by
  obtain ⟨dx, e⟩ := h
  exact ⟨dx, s q _ e n⟩
theorem SameX.cav {K : PySem.W.Frag} {a : Ad} {p cv pl : Addr} {c : Ge13.Cave} {H H' : Hp} (s : SameX p H H') (h : CavAt K a H cv pl c) (n1 : cv ≠ p) (n2 : pl ≠ p) : CavAt K a H' cv pl c := ⟨s.ob h.ob n1, s _ _ h.ls n2⟩
section
variable {K : PySem.W.Frag} {σ : L2.St} {H : Hp} {D : Ends} {ta te : TE} {t : L2.TA} {sp : Sp} {dvs vs : List V} {E : XK} {i : Nat} {C p : Addr} {f : Str}
theorem s_fldLst (h : IsA t σ H vs) (hl : vs.length ≤ sizeLine) (k : ∀ p, H p = none → FldK K ta f D σ (.ref p) (upd H p (.lst vs))) : sFld K ta (tLst t) f D σ H := h _ ⟨hl, k⟩
theorem s_fldMake (k : t σ H fun vs H1 => ∀ x dx, H1 x = none → H1 dx = none → dx ≠ x → sp (.ref x :: (vs ++ dvs)) (upd (upd H1 dx (.own x)) x (.ins C dx [])) (fun v H2 => v = .non ∧ FldK K ta f D σ (.ref x) H2) E) : sFld K ta (tMake C sp dvs E t) f D σ H := k
theorem s_setMake' (k : t σ H fun vs H1 => ∀ x dx, H1 x = none → H1 dx = none → dx ≠ x → sp (.ref x :: (vs ++ dvs)) (upd (upd H1 dx (.own x)) x (.ins C dx [])) (fun v H2 => v = .non ∧ D.nx (σ.set i (some (.ref x))) H2) E) : tAsg (tMake C sp dvs E t) (gName i) D σ H := k
theorem s_fldList {ys : List V} (h : Is te σ H (.ref p)) (hl : SqL K H p ys) (k : ∀ l, H l = none → FldK K ta f D σ (.ref l) (upd H l (.lst ys))) : sFld K ta (tCB (rListOf K) (tCons te tNil)) f D σ H := h _ ⟨p, ys, rfl, .inl hl, k⟩
theorem a_call {t' : L2.TA} {Q : List V → Hp → Prop} (h : IsA t σ H vs) (k : sp (vs ++ dvs) H (fun y H1 => t' σ H1 fun xs H2 => Q (y :: xs) H2) E) : tCons (tCall sp dvs E t) t' σ H Q := h _ k
end
/-! ### where a game's parts lie -/
/-- how it stood: the object, its cave, the places -/
structure SA where
  st : Addr
  cv : Addr
  pl : Addr
structure GA where
  g : Addr
  so : Addr
  l : Addr
  ss : List SA
/-- what stands for good -/
def Froz (ss : List SA) (b : Addr) : Prop := ∃ s ∈ ss, b = s.st ∨ b = s.cv ∨ b = s.pl
def Part (A : GA) (b : Addr) : Prop := (b = A.g ∨ b = A.so ∨ b = A.l) ∨ Froz A.ss b
structure StAt (K : PySem.W.Frag) (a : Ad) (H : Hp) (s : SA) (c : Ge13.Cave) : Prop where
  ob : Ob K H s.st a.cStanding (stdF s.cv c.over c.points)
  cv : CavAt K a H s.cv s.pl c
theorem Ob.keep {K : PySem.W.Frag} {H H' : Hp} {p C : Addr} {fs : List (Str × V)} (h : Ob K H p C fs) (k : ∀ o, H p = some o → H' p = some o) : Ob K H' p C fs := by
  obtain ⟨dx, e⟩ := h
  exact ⟨dx, k _ e⟩
theorem StAt.keep {K : PySem.W.Frag} {a : Ad} {H H' : Hp} {s : SA} {c : Ge13.Cave} (h : StAt K a H s c) (k : ∀ b o, H b = some o → (b = s.st ∨ b = s.cv ∨ b = s.pl) → H' b = some o) : StAt K a H' s c :=
  ⟨Ob.keep h.ob fun o e => k _ o e (.inl rfl), ⟨Ob.keep h.cv.ob fun o e => k _ o e (.inr (.inl rfl)), k _ _ h.cv.ls (.inr (.inr rfl))⟩⟩
theorem StAt.same {K : PySem.W.Frag} {a : Ad} {H H' : Hp} {s : SA} {c : Ge13.Cave} (h : StAt K a H s c) (sm : Same H H') : StAt K a H' s c := h.keep fun b o e _ => sm b o e
structure GameAt (K : PySem.W.Frag) (a : Ad) (H : Hp) (A : GA) (x : Ge13.Game) : Prop where
  g : Ob K H A.g a.cGame (gamF A.so A.l x.rest x.step x.held)
  l : H A.l = some (.lst (x.keys.map iv))
  so : H A.so = some (.lst (A.ss.map fun s => V.ref s.st))
  len : A.ss.length = x.keys.length + 1
  st : ∀ i s, A.ss[i]? = some s → StAt K a H s (Ge13.playTo x i)
  nw : x.now = Ge13.playTo x x.keys.length
  n0 : A.l ≠ A.so
  nf : ∀ b, b = A.g ∨ b = A.so ∨ b = A.l → ¬ Froz A.ss b
section
variable {K : PySem.W.Frag} {a : Ad} {H H' : Hp} {A : GA} {x : Ge13.Game}
theorem GameAt.mono (h : GameAt K a H A x) (k : ∀ b o, H b = some o → Part A b → H' b = some o) : GameAt K a H' A x where
  g := Ob.keep h.g fun o e => k _ o e (.inl (.inl rfl))
  l := k _ _ h.l (.inl (.inr (.inr rfl)))
  so := k _ _ h.so (.inl (.inr (.inl rfl)))
  len := h.len
  st := fun i s e => (h.st i s e).keep fun b o eb p => k b o eb (.inr ⟨s, List.mem_of_getElem? e, p⟩)
  nw := h.nw
  n0 := h.n0
  nf := h.nf
theorem GameAt.same (h : GameAt K a H A x) (s : Same H H') : GameAt K a H' A x := h.mono fun b o e _ => s b o e
theorem GameAt.fz (h : GameAt K a H A x) {b : Addr} (p : Froz A.ss b) : ∃ o, H b = some o := by
  obtain ⟨s, hs, p⟩ := p
  obtain ⟨i, hi⟩ := List.mem_iff_getElem?.mp hs
  have q := h.st i s hi
  rcases p with rfl | rfl | rfl
  · obtain ⟨dx, e⟩ := q.ob
    exact ⟨_, e⟩
  · obtain ⟨dx, e⟩ := q.cv.ob
    exact ⟨_, e⟩
  · exact ⟨_, q.cv.ls⟩
theorem GameAt.live (h : GameAt K a H A x) {b : Addr} (p : Part A b) : ∃ o, H b = some o := by
  rcases p with (rfl | rfl | rfl) | p
  · obtain ⟨dx, e⟩ := h.g
    exact ⟨_, e⟩
  · exact ⟨_, h.so⟩
  · exact ⟨_, h.l⟩
  · exact h.fz p
theorem GameAt.ngso (h : GameAt K a H A x) : A.g ≠ A.so := by
  obtain ⟨dx, e⟩ := h.g
  exact ne_of e h.so fun z => by cases z
theorem GameAt.ngl (h : GameAt K a H A x) : A.g ≠ A.l := by
  obtain ⟨dx, e⟩ := h.g
  exact ne_of e h.l fun z => by cases z
theorem GameAt.get (h : GameAt K a H A x) {i : Nat} (hi : i ≤ x.keys.length) : ∃ s, A.ss[i]? = some s ∧ StAt K a H s (Ge13.playTo x i) := by
  have hl : i < A.ss.length := by rw [h.len]; omega
  exact ⟨A.ss[i], List.getElem?_eq_getElem hl, h.st i _ (List.getElem?_eq_getElem hl)⟩
/-- the game's own object written -/
theorem GameAt.setG (h : GameAt K a H A x) (r s d : Nat) (dx : Addr) : GameAt K a (upd H A.g (.ins a.cGame dx (gamF A.so A.l r s d))) A { x with rest := r, step := s, held := d } where
  g := ⟨dx, upd_same⟩
  l := by rw [upd_ne h.ngl.symm]; exact h.l
  so := by rw [upd_ne h.ngso.symm]; exact h.so
  len := h.len
  st := fun i s e => (h.st i s e).keep fun b o eb p => by
    rw [upd_ne fun z => h.nf b (.inl z) ⟨s, List.mem_of_getElem? e, p⟩]
    exact eb
  nw := h.nw
  n0 := h.n0
  nf := h.nf
end
/-- a game has gone on: what of it is new, what stands -/
structure Went (H : Hp) (A : GA) (H' : Hp) (A' : GA) : Prop where
  g : A'.g = A.g
  so : A'.so = A.so ∨ H A'.so = none
  l : A'.l = A.l ∨ H A'.l = none
  fz : ∀ b, Froz A'.ss b → Froz A.ss b ∨ H b = none
  keep : ∀ b o, H b = some o → ¬ (b = A.g ∨ b = A.so ∨ b = A.l) → H' b = some o
  free : ∀ b, H' b = none → H b = none
theorem Went.same {H H' : Hp} {A : GA} (s : Same H H') : Went H A H' A := ⟨rfl, .inl rfl, .inl rfl, fun _ p => .inl p, fun b o e _ => s b o e, fun _ e => s.free e⟩
theorem Went.refl {A : GA} (H : Hp) : Went H A H A := Went.same (Same.refl H)
theorem Went.gp {H : Hp} {A : GA} {o : HO} : Went H A (upd H A.g o) A := ⟨rfl, .inl rfl, .inl rfl, fun _ p => .inl p, fun b u e n => by rw [upd_ne fun z => n (.inl z)]; exact e, fun _ e => (upd_none e).2⟩
theorem Went.trans {H H1 H2 : Hp} {A A1 A2 : GA} (p : Went H A H1 A1) (q : Went H1 A1 H2 A2) : Went H A H2 A2 where
  g := q.g.trans p.g
  so := by
    rcases q.so with z | z
    · rw [z]; exact p.so
    · exact .inr (p.free _ z)
  l := by
    rcases q.l with z | z
    · rw [z]; exact p.l
    · exact .inr (p.free _ z)
  fz := fun b h => by
    rcases q.fz b h with z | z
    · exact p.fz b z
    · exact .inr (p.free _ z)
  keep := fun b o e n => q.keep b o (p.keep b o e n) fun z => by
    rcases z with z | z | z
    · exact n (.inl (z.trans p.g))
    · rcases p.so with y | y
      · exact n (.inr (.inl (z.trans y)))
      · rw [← z, e] at y
        cases y
    · rcases p.l with y | y
      · exact n (.inr (.inr (z.trans y)))
      · rw [← z, e] at y
        cases y
  free := fun b e => p.free _ (q.free _ e)
def spCountTicks (K : PySem.W.Frag) (a : Ad) : Sp := fun vs H Q _ => ∃ (A : GA) (x : Ge13.Game), vs = [.ref A.g] ∧ GameAt K a H A x ∧ Q (iv x.keys.length) H
def spBehind (K : PySem.W.Frag) (a : Ad) : Sp := fun vs H Q _ => ∃ (A : GA) (x : Ge13.Game) (i : Nat) (s : SA), vs = [.ref A.g, iv i] ∧ GameAt K a H A x ∧ A.ss[i]? = some s ∧ Q (.ref s.st) H
def spNow (K : PySem.W.Frag) (a : Ad) : Sp := fun vs H Q _ => ∃ (A : GA) (x : Ge13.Game) (s : SA), vs = [.ref A.g] ∧ GameAt K a H A x ∧ A.ss[x.keys.length]? = some s ∧ Q (.ref s.st) H
def stoodL (c : Ge13.Cave) (i : Nat) : List Nat := [c.over, c.points, i, gems c]
def spStood (K : PySem.W.Frag) (a : Ad) : Sp := fun vs H Q _ => ∃ (A : GA) (x : Ge13.Game) (i : Nat), vs = [.ref A.g, iv i] ∧ GameAt K a H A x ∧ i ≤ x.keys.length ∧ (Ge13.playTo x i).cells.length = (Ge13.playTo x i).w * (Ge13.playTo x i).h ∧
  ∀ p, H p = none → Q (.ref p) (upd H p (.lst ((stoodL (Ge13.playTo x i) i).map iv)))
def spHow (K : PySem.W.Frag) (a : Ad) : Sp := fun vs H Q _ => ∃ (A : GA) (x : Ge13.Game), vs = [.ref A.g] ∧ GameAt K a H A x ∧ x.now.cells.length = x.now.w * x.now.h ∧
  ∀ p, H p = none → Q (.ref p) (upd H p (.lst ([x.now.over, x.now.points, x.keys.length, gems x.now].map iv)))
def spPress (K : PySem.W.Frag) (a : Ad) : Sp := fun vs H Q _ => ∃ (A : GA) (x : Ge13.Game) (key : Nat), vs = [.ref A.g, iv key] ∧ GameAt K a H A x ∧ Wf x.now ∧ key ≤ 4 ∧ x.keys.length < 100000 ∧
  ∀ H' A', GameAt K a H' A' (pressOn x key) → Went H A H' A' → Q .non H'
def spCopyCave (K : PySem.W.Frag) (a : Ad) : Sp := fun vs H Q _ => ∃ (cv pl : Addr) (c : Ge13.Cave), vs = [.ref cv] ∧ CavAt K a H cv pl c ∧ ∀ H' cv' pl', Same H H' → CavAt K a H' cv' pl' c → H cv' = none → H pl' = none → Q (.ref cv') H'
def spCopyStanding (K : PySem.W.Frag) (a : Ad) : Sp := fun vs H Q _ => ∃ (st cv pl : Addr) (c : Ge13.Cave), vs = [.ref st] ∧ Ob K H st a.cStanding (stdF cv c.over c.points) ∧ CavAt K a H cv pl c ∧
  ∀ H' st' cv' pl', Same H H' → Ob K H' st' a.cStanding (stdF cv' c.over c.points) → CavAt K a H' cv' pl' c → H st' = none → H cv' = none → H pl' = none → Q (.ref st') H'
section
variable {K : PySem.W.Frag} {σ : L2.St} {H : Hp} {te : TE} {t : L2.TA} {Q : List V → Hp → Prop} {v : V}
theorem a_cons (h : Is te σ H v) (k : t σ H fun xs H1 => Q (v :: xs) H1) : tCons te t σ H Q := h _ k
theorem a_nil (k : Q [] H) : tNil σ H Q := k
theorem a_list {p : Addr} {ys : List V} (h : Is te σ H (.ref p)) (hl : SqL K H p ys) (k : ∀ l, H l = none → t σ (upd H l (.lst ys)) fun xs H1 => Q (.ref l :: xs) H1) : tCons (tCB (rListOf K) (tCons te tNil)) t σ H Q :=
  h _ ⟨p, ys, rfl, .inl hl, k⟩
end
theorem s_retMake {σ : L2.St} {H : Hp} {t : L2.TA} {C : Addr} {sp : Sp} {dvs : List V} {E : XK} {D : Ends} (k : t σ H fun vs H1 => ∀ x dx, H1 x = none → H1 dx = none → dx ≠ x → sp (.ref x :: (vs ++ dvs)) (upd (upd H1 dx (.own x)) x (.ins C dx [])) (fun v H2 => v = .non ∧ D.rt (.ref x) H2) E) : tRet (tMake C sp dvs E t) D σ H := k
section
variable {K : PySem.W.Frag} {σ : L2.St} {H : Hp} {D : Ends}
theorem s_retN (k : D.rt .non H) : tRetN D σ H := k
end
section
variable {P : Program} {w : World} {K : PySem.W.Frag} {mg : Str → Option Value} {base : Heap} {a : Ad} (T : Txt K mg a)
include T

theorem c_count_ticks : C8.Cal P w K mg base 1 "count_ticks" (spCountTicks K a) [] := by
  obtain ⟨f, fd, F, b⟩ := T.d_count_ticks
  refine C8.cal0 F b .nil sc_count_ticks (fun vs H Q E h => ?len) (fun cdv A0 outer s H vs Q E hr h => ⟨_, (pss_one (ps_ret (pe_callB call_len_seq (by rfl) T.n_len (by decide +kernel) (pa_cons (pe_fld (pv 0) rfl) pa_nil)))), ?rd⟩)
  case len => obtain ⟨A, x, rfl, _⟩ := h; rfl
  case rd =>
    obtain ⟨A, x, rfl, h, k⟩ := h
    refine s_ret (is_to (is_len (is_fld (is_var rfl) h.g T.k_Game (by decide) l_pressed) (SqL.of h.l)) (j := ((x.keys.length : Nat) : Int)) ?_) k
    rw [List.length_map]
theorem c_standing_behind : C8.Cal P w K mg base 1 "standing_behind" (spBehind K a) [] := by
  obtain ⟨f, fd, F, b⟩ := T.d_standing_behind
  refine C8.cal0 F b .nil sc_standing_behind (fun vs H Q E h => ?len) (fun cdv A0 outer s H vs Q E hr h => ⟨_, (pss_one (ps_ret (pe_ix ix_list (pe_fld (pv 0) rfl) (pv 1) (fun _ _ => rfl)))), ?rd⟩)
  case len => obtain ⟨A, x, i, s, rfl, _⟩ := h; rfl
  case rd =>
    obtain ⟨A, x, i, s, rfl, h, hs, k⟩ := h
    exact s_ret (is_ixL (is_fld (is_var rfl) h.g T.k_Game (by decide) l_stood) (is_var rfl) (SqL.of h.so) (atI_nat (by rw [List.getElem?_map, hs]; rfl))) k
theorem is_count {σ : L2.St} {H : Hp} {A : GA} {x : Ge13.Game} {te : TE} (h : GameAt K a H A x) (i : Is te σ H (.ref A.g)) : Is (tCall (spCountTicks K a) [] C8.E0 (tCons te tNil)) σ H (iv x.keys.length) := is_call (isA_cons i isA_nil) fun Q' E' q => ⟨A, x, rfl, h, q⟩
theorem is_behind {σ : L2.St} {H : Hp} {A : GA} {x : Ge13.Game} {te ti : TE} {i : Nat} {s : SA} (h : GameAt K a H A x) (g : Is te σ H (.ref A.g)) (n : Is ti σ H (iv i)) (hs : A.ss[i]? = some s) : Is (tCall (spBehind K a) [] C8.E0 (tCons te (tCons ti tNil))) σ H (.ref s.st) :=
  is_call (isA_cons g (isA_cons n isA_nil)) fun Q' E' q => ⟨A, x, i, s, rfl, h, hs, q⟩
theorem c_standing_now : C8.Cal P w K mg base 2 "standing_now" (spNow K a) [] := by
  obtain ⟨f, fd, F, b⟩ := T.d_standing_now
  refine C8.cal0 F b .nil sc_standing_now (fun vs H Q E h => ?len) (fun cdv A0 outer s H vs Q E hr h => ⟨_, (pss_one (ps_ret (C8.pe_c (c_standing_behind T) hr (by decide) (by rfl) (pa_cons (pv 0) (pa_cons (C8.pe_c (c_count_ticks T) hr (by decide) (by rfl) (pa_cons (pv 0) pa_nil)) pa_nil))))), ?rd⟩)
  case len => obtain ⟨A, x, s, rfl, _⟩ := h; rfl
  case rd =>
    obtain ⟨A, x, s, rfl, h, hs, k⟩ := h
    exact s_ret (is_behind T h (is_var rfl) (is_count T h (is_var rfl)) hs) k
theorem is_now {σ : L2.St} {H : Hp} {A : GA} {x : Ge13.Game} {te : TE} {s : SA} (h : GameAt K a H A x) (g : Is te σ H (.ref A.g)) (hs : A.ss[x.keys.length]? = some s) : Is (tCall (spNow K a) [] C8.E0 (tCons te tNil)) σ H (.ref s.st) :=
  is_call (isA_cons g isA_nil) fun Q' E' q => ⟨A, x, s, rfl, h, hs, q⟩
theorem c_how_it_stood : C8.Cal P w K mg base 2 "how_it_stood" (spStood K a) [] := by
  obtain ⟨f, fd, F, b⟩ := T.d_how_it_stood
  refine C8.cal0 F b .nil sc_how_it_stood (fun vs H Q E h => ?len) (fun cdv A0 outer s H vs Q E hr h => ⟨_, (pss_cons (ps_set (i := 2) sc_how_it_stood.nd rfl (Or.inl rfl) (C8.pe_c (c_standing_behind T) hr (by decide) (by rfl) (pa_cons (pv 0) (pa_cons (pv 1) pa_nil)))) (pss_one (ps_ret (pe_lst (pa_cons (pe_fld (pv 2) rfl) (pa_cons (pe_fld (pv 2) rfl) (pa_cons (pv 1) (pa_cons (C8.pe_c (c_count_gems T) hr (by decide) (by rfl) (pa_cons (pe_fld (pv 2) rfl) pa_nil)) pa_nil)))))))), ?rd⟩)
  case len => obtain ⟨A, x, i, rfl, _⟩ := h; rfl
  case rd =>
    obtain ⟨A, x, i, rfl, h, hi, hl, k⟩ := h
    obtain ⟨s, hs, hst⟩ := h.get hi
    refine s_seq (s_set (is_behind T h (is_var rfl) (is_var rfl) hs) ?_)
    exact s_retLst (vs := (stoodL (Ge13.playTo x i) i).map iv) (isA_cons (is_fld (is_var rfl) hst.ob T.k_Standing (by decide) l_outcome) (isA_cons (is_fld (is_var rfl) hst.ob T.k_Standing (by decide) l_points) (isA_cons (is_var rfl) (isA_cons (is_call (isA_cons (is_fld (is_var rfl) hst.ob T.k_Standing (by decide) l_cave) isA_nil) fun Q' E' q => ⟨s.cv, s.pl, _, rfl, hst.cv, hl, q⟩) isA_nil)))) (by show 4 ≤ sizeLine; decide) k
theorem c_how_it_stands : C8.Cal P w K mg base 3 "how_it_stands" (spHow K a) [] := by
  obtain ⟨f, fd, F, b⟩ := T.d_how_it_stands
  refine C8.cal0 F b .nil sc_how_it_stands (fun vs H Q E h => ?len) (fun cdv A0 outer s H vs Q E hr h => ⟨_, (pss_one (ps_ret (C8.pe_c (c_how_it_stood T) hr (by decide) (by rfl) (pa_cons (pv 0) (pa_cons (C8.pe_c (c_count_ticks T) hr (by decide) (by rfl) (pa_cons (pv 0) pa_nil)) pa_nil))))), ?rd⟩)
  case len => obtain ⟨A, x, rfl, _⟩ := h; rfl
  case rd =>
    obtain ⟨A, x, rfl, h, hl, k⟩ := h
    have e := h.nw
    refine s_retCall (isA_cons (is_var rfl) (isA_cons (is_count T h (is_var rfl)) isA_nil)) ⟨A, x, x.keys.length, rfl, h, Nat.le_refl _, by rw [← e]; exact hl, fun p hp => ?_⟩
    rw [← e]
    exact k p hp
theorem c_copy_cave : C8.Cal P w K mg base 3 "copy_cave" (spCopyCave K a) [] := by
  obtain ⟨f, fd, F, b⟩ := T.d_copy_cave
  refine C8.cal0 F b .nil sc_copy_cave (fun vs H Q E h => ?len) (fun cdv A0 outer s H vs Q E hr h => ⟨_, (pss_one (ps_ret (C8.pe_mk (c_Cave T) hr (by decide) (by rfl) (pa_cons (pe_fld (pv 0) rfl) (pa_cons (pe_fld (pv 0) rfl) (pa_cons (pe_callTy call_list_of (by rfl) T.n_list (by decide +kernel) (pa_cons (pe_fld (pv 0) rfl) pa_nil)) pa_nil)))))), ?rd⟩)
  case len => obtain ⟨cv, pl, c, rfl, _⟩ := h; rfl
  case rd =>
    obtain ⟨cv, pl, c, rfl, h, k⟩ := h
    have f1 : ∀ {σ : L2.St}, σ[0]? = some (some (.ref cv)) → Is (tFld K (tVar 0) "wide") σ H (iv c.w) := fun e => is_fld (is_var e) h.ob T.k_Cave (by decide) l_wide
    have f2 : ∀ {σ : L2.St}, σ[0]? = some (some (.ref cv)) → Is (tFld K (tVar 0) "high") σ H (iv c.h) := fun e => is_fld (is_var e) h.ob T.k_Cave (by decide) l_high
    have f3 : ∀ {σ : L2.St}, σ[0]? = some (some (.ref cv)) → Is (tFld K (tVar 0) "places") σ H (.ref pl) := fun e => is_fld (is_var e) h.ob T.k_Cave (by decide) l_places
    refine s_retMake (a_cons (f1 rfl) (a_cons (f2 rfl) (a_list (f3 rfl) (SqL.of h.ls) fun l hl => a_nil ?_)))
    refine mk_in (fs := cavF c.w c.h l) rfl fun x H' hx sm ob => ?_
    obtain ⟨nx, hx0⟩ := upd_none hx
    exact k H' x l ((same_new hl).trans sm) ⟨ob, sm _ _ upd_same⟩ hx0 hl
theorem c_copy_standing : C8.Cal P w K mg base 4 "copy_standing" (spCopyStanding K a) [] := by
  obtain ⟨f, fd, F, b⟩ := T.d_copy_standing
  refine C8.cal0 F b .nil sc_copy_standing (fun vs H Q E h => ?len) (fun cdv A0 outer s H vs Q E hr h => ⟨_, (pss_cons (ps_set (i := 1) sc_copy_standing.nd rfl (Or.inl rfl) (C8.pe_mk (c_Standing T) hr (by decide) (by rfl) (pa_cons (C8.pe_c (c_copy_cave T) hr (by decide) (by rfl) (pa_cons (pe_fld (pv 0) rfl) pa_nil)) pa_nil))) (pss_cons (ps_fld (pv 1) (pe_fld (pv 0) rfl) rfl) (pss_cons (ps_fld (pv 1) (pe_fld (pv 0) rfl) rfl) (pss_one (ps_ret (pv 1)))))), ?rd⟩)
  case len => obtain ⟨st, cv, pl, c, rfl, _⟩ := h; rfl
  case rd =>
    obtain ⟨st, cv, pl, c, rfl, hst, hcv, k⟩ := h
    refine s_seq (s_setMake' (a_call (isA_cons (is_fld (is_var rfl) hst T.k_Standing (by decide) l_cave) isA_nil) ⟨cv, pl, c, rfl, hcv, fun H1 cv' pl' sm1 hc1 ncv npl => a_nil ?_⟩))
    refine mk_in (mk := mkStanding) (us := [.ref cv']) (fs := stdF cv' 0 0) rfl fun x H2 hx sm2 ob => ?_
    have hst2 := ob_same hst (sm1.trans sm2)
    have hc2 := hc1.same sm2
    have nx : H x = none := by
      cases e : H x with
      | none => rfl
      | some o =>
        rw [sm1 x o e] at hx
        cases hx
    obtain ⟨d2, e2⟩ := hc2.ob
    obtain ⟨d0, e0⟩ := ob
    have n1 : cv' ≠ x := ne_of e2 e0 fun z => std_cav z.symm
    have n2 : pl' ≠ x := ne_of hc2.ls e0 fun z => by cases z
    have n3 : st ≠ x := by
      obtain ⟨d3, e3⟩ := hst
      exact ne_of_none e3 nx
    refine s_seq (s_fld (is_fld (is_var rfl) hst2 T.k_Standing (by decide) l_outcome) (is_var rfl) ⟨d0, e0⟩ T.k_Standing (by decide) (by show 3 < 1000; decide) fun dx1 e1 => ?_)
    refine s_seq (s_fld (is_fld (is_var rfl) (ob_up hst2 n3) T.k_Standing (by decide) l_points) (is_var rfl) ⟨dx1, upd_same⟩ T.k_Standing (by decide) (by show 3 < 1000; decide) fun dx2 e3 => ?_)
    refine s_ret (is_var rfl) (k _ x cv' pl' ?_ ⟨dx2, by rw [upd_same]; rfl⟩ ((hc2.ne n1 n2).ne n1 n2) nx ncv npl)
    exact fun b o hb => by
      have nb : b ≠ x := ne_of_none hb nx
      rw [upd_ne nb, upd_ne nb]
      exact sm2 _ _ (sm1 _ _ hb)
theorem c_press : C8.Cal P w K mg base 7 "press" (spPress K a) [] := by
  obtain ⟨f, fd, F, b⟩ := T.d_press
  refine C8.cal0 F b .nil sc_press (fun vs H Q E h => ?len) (fun cdv A0 outer s H vs Q E hr h => ⟨_, (pss_cons (ps_if (pt_val (C8.pe_c (c_is_over T) hr (by decide) (by rfl) (pa_cons (C8.pe_c (c_standing_now T) hr (by decide) (by rfl) (pa_cons (pv 0) pa_nil)) pa_nil))) (pss_one ps_retN) pss_nil) (pss_cons (ps_set (i := 2) sc_press.nd rfl (Or.inl rfl) (C8.pe_c (c_copy_standing T) hr (by decide) (by rfl) (pa_cons (C8.pe_c (c_standing_now T) hr (by decide) (by rfl) (pa_cons (pv 0) pa_nil)) pa_nil))) (pss_cons (ps_expr (C8.pe_c (c_run_tick T) hr (by decide) (by rfl) (pa_cons (pv 2) (pa_cons (pv 1) pa_nil)))) (pss_cons (ps_expr (pe_bm PySem.F.plainAttrs_list PySem.F.slot_list_append PySem.F.type_list_append mt_append (pe_fld (pv 0) rfl) (pa_cons (pv 2) pa_nil))) (pss_one (ps_expr (pe_bm PySem.F.plainAttrs_list PySem.F.slot_list_append PySem.F.type_list_append mt_append (pe_fld (pv 0) rfl) (pa_cons (pv 1) pa_nil)))))))), ?rd⟩)
  case len => obtain ⟨A, x, key, rfl, _⟩ := h; rfl
  case rd =>
    obtain ⟨A, x, key, rfl, h, hwf, hk, hl, k⟩ := h
    obtain ⟨s, hs, hst⟩ := h.get (Nat.le_refl _)
    rw [← h.nw] at hst
    refine s_guard (isT_v (is_call (isA_cons (is_now T h (is_var rfl) hs) isA_nil) fun Q' E' q => ⟨s.st, s.cv, _, _, rfl, hst.ob, q⟩)) (fun hb => ?_) (fun hb => ?_)
    · have ho : x.now.over ≠ 0 := fun z => by
        rw [z] at hb
        exact absurd hb (by decide)
      have e : pressOn x key = x := by
        unfold pressOn
        rw [if_pos ho]
      exact s_retN (k H A (by rw [e]; exact h) (Went.refl H))
    · have ho : x.now.over = 0 := by
        rw [Bool.not_eq_false'] at hb
        have := of_decide_eq_true hb
        omega
      have e : pressOn x key = { x with keys := x.keys ++ [key], now := Ge13.tick x.now key } := by
        unfold pressOn
        rw [if_neg (by omega)]
      refine s_seq (s_setCall (isA_cons (is_now T h (is_var rfl) hs) isA_nil) ⟨s.st, s.cv, s.pl, x.now, rfl, hst.ob, hst.cv, fun H1 st cv pl sm1 ob1 c1 nst ncv npl => ?_⟩)
      refine s_seq (s_call (isA_cons (is_var rfl) (isA_cons (is_var rfl) isA_nil)) ⟨st, cv, pl, x.now, key, rfl, hk, ho, hwf, ob1, c1, fun H2 ob2 c2 f2 => ?_⟩)
      have k2 : ∀ b o, H b = some o → H2 b = some o := fun b o hb => f2 b o (sm1 b o hb) (ne_of_none hb nst) (ne_of_none hb npl)
      have fr2 : ∀ b, H2 b = none → H b = none := fun b hb => by
        cases q : H b with
        | none => rfl
        | some o =>
          rw [k2 b o q] at hb
          cases hb
      obtain ⟨dg, eg⟩ := h.g
      have g2 : Ob K H2 A.g a.cGame (gamF A.so A.l x.rest x.step x.held) := ⟨dg, k2 _ _ eg⟩
      refine s_seq (s_append (is_fld (is_var rfl) g2 T.k_Game (by decide) l_stood) (isA_cons (is_var rfl) isA_nil) (k2 _ _ h.so) (by rw [List.length_map, h.len]; exact Nat.lt_of_le_of_lt (Nat.succ_le_of_lt hl) (by decide)) ?_)
      have g3 := ob_up (p := A.so) (u := .lst ((A.ss.map fun s => V.ref s.st) ++ [.ref st])) g2 h.ngso
      have l3 : upd H2 A.so (.lst ((A.ss.map fun s => V.ref s.st) ++ [.ref st])) A.l = some (.lst (x.keys.map iv)) := by
        rw [upd_ne h.n0]
        exact k2 _ _ h.l
      refine s_append (is_fld (is_var rfl) g3 T.k_Game (by decide) l_pressed) (isA_cons (is_var rfl) isA_nil) l3 (by rw [List.length_map]; exact Nat.lt_trans hl (by decide)) ?_
      obtain ⟨d1, e1⟩ := ob2
      obtain ⟨d2, e2⟩ := c2.ob
      have nl : H A.l = some (.lst (x.keys.map iv)) := h.l
      have nst' : H st = none := nst
      have n1 : ∀ b, b = st ∨ b = cv ∨ b = pl → H b = none := fun b hb => by
        rcases hb with rfl | rfl | rfl
        · exact nst
        · exact ncv
        · exact npl
      have n2 : ∀ b, b = st ∨ b = cv ∨ b = pl → b ≠ A.so ∧ b ≠ A.l := fun b hb => by
        have z := n1 b hb
        exact ⟨(ne_of_none h.so z).symm, (ne_of_none h.l z).symm⟩
      refine k _ ⟨A.g, A.so, A.l, A.ss ++ [⟨st, cv, pl⟩]⟩ ?_ ?_
      · rw [e]
        exact {
          g := ob_up g3 h.ngl
          l := by
            rw [upd_same, List.map_append]
            rfl
          so := by
            rw [upd_ne h.n0.symm, upd_same, List.map_append]
            rfl
          len := by
            show (A.ss ++ [_]).length = (x.keys ++ [key]).length + 1
            rw [List.length_append, List.length_append, h.len]
            rfl
          st := fun i s' hi => by
            by_cases hil : i < A.ss.length
            · have hi' : (A.ss ++ [(⟨st, cv, pl⟩ : SA)])[i]? = some s' := hi
              rw [List.getElem?_append_left hil] at hi'
              rw [playTo_old x key _ (by have := h.len; omega)]
              refine (h.st i s' hi').keep fun b o hb p => ?_
              have nf := fun z => h.nf b z ⟨s', List.mem_of_getElem? hi', p⟩
              rw [upd_ne fun z => nf (.inr (.inr z)), upd_ne fun z => nf (.inr (.inl z))]
              exact k2 b o hb
            · have hi' : (A.ss ++ [(⟨st, cv, pl⟩ : SA)])[i]? = some s' := hi
              have hlt := (List.getElem?_eq_some_iff.mp hi').1
              rw [List.length_append, List.length_singleton] at hlt
              have ei : i = x.keys.length + 1 := by have := h.len; omega
              rw [List.getElem?_append_right (by omega)] at hi'
              have z0 : i - A.ss.length = 0 := by omega
              rw [z0] at hi'
              cases hi'
              rw [ei, playTo_new, ← h.nw]
              refine ⟨ob_up (ob_up ⟨d1, e1⟩ (n2 st (.inl rfl)).1) (n2 st (.inl rfl)).2, CavAt.ne (CavAt.ne c2 (n2 cv (.inr (.inl rfl))).1 (n2 pl (.inr (.inr rfl))).1) (n2 cv (.inr (.inl rfl))).2 (n2 pl (.inr (.inr rfl))).2⟩
          nw := by
            show Ge13.tick x.now key = Ge13.playTo _ (x.keys ++ [key]).length
            rw [List.length_append, List.length_singleton, playTo_new, ← h.nw]
          n0 := h.n0
          nf := fun b hb p => by
            obtain ⟨s', hs', p⟩ := p
            rcases List.mem_append.mp hs' with q | q
            · exact h.nf b hb ⟨s', q, p⟩
            · have es := List.mem_singleton.mp q
              subst es
              have z := n1 b p
              obtain ⟨o, lv⟩ := h.live (b := b) (.inl hb)
              rw [lv] at z
              cases z }
      · exact {
          g := rfl
          so := .inl rfl
          l := .inl rfl
          fz := fun b p => by
            obtain ⟨s', hs', p⟩ := p
            rcases List.mem_append.mp hs' with q | q
            · exact .inl ⟨s', q, p⟩
            · have es := List.mem_singleton.mp q
              subst es
              exact .inr (n1 b p)
          keep := fun b o hb n => by
            rw [upd_ne fun z => n (.inr (.inr z)), upd_ne fun z => n (.inr (.inl z))]
            exact k2 b o hb
          free := fun b hb => fr2 b (upd_none (upd_none hb).2).2 }
end
end G

set_option Elab.async false
set_option linter.all false
set_option maxRecDepth 100000
set_option maxHeartbeats 4000000
namespace G
open PySem PySem.Spec PyProof.Rows L2
open Ge13 (at_ put gems beside cellTo Marks goTo playerTurn stoneTurn monsterTurn)
open Gm
open U

/-! ### games made, copied, gone back -/
section
variable {K : PySem.W.Frag} {σ : L2.St} {H : Hp} {D : Ends} {ta te tl thi : TE} {t : L2.TA} {sp : Sp} {dvs vs xs : List V} {E : XK} {C p : Addr} {f : Str} {j : Int}
/-- o.f = [C(..)] -/
theorem s_fldLstM (k : t σ H fun vs H1 => ∀ x dx, H1 x = none → H1 dx = none → dx ≠ x → sp (.ref x :: (vs ++ dvs)) (upd (upd H1 dx (.own x)) x (.ins C dx [])) (fun v H2 => v = .non ∧ (1 ≤ sizeLine ∧ ∀ p, H2 p = none → FldK K ta f D σ (.ref p) (upd H2 p (.lst [.ref x])))) E) :
    sFld K ta (tLst (tCons (tMake C sp dvs E t) tNil)) f D σ H := k
/-- o.f = xs[:j] -/
theorem s_fldSl (hp : Is tl σ H (.ref p)) (hl : SqL K H p xs) (hj : Is thi σ H (.int j)) (k : ∀ q, H q = none → FldK K ta f D σ (.ref q) (upd H q (.lst (cutV xs none (some j))))) : sFld K ta (tSl (rSlL K) tl tNoPart (tPart thi)) f D σ H :=
  hp _ (hj _ ⟨j, rfl, p, xs, rfl, hl, k⟩)
end
theorem cut_take (xs : List V) (n : Nat) : cutV xs none (some (n : Int)) = xs.take n := by
  unfold cutV
  rw [HT.sIx_nat]
  show (xs.drop 0).take (min n xs.length - 0) = xs.take n
  rw [List.drop_zero, Nat.sub_zero]
  by_cases h : n ≤ xs.length
  · rw [Nat.min_eq_left h]
  · rw [Nat.min_eq_right (by omega), List.take_length, List.take_of_length_le (by omega)]
def spGame (K : PySem.W.Frag) (a : Ad) : Sp := fun vs H Q _ => ∃ (p dx ar : Addr) (tp : Nat), vs = [.ref p, .ref ar, iv tp] ∧ H p = some (.ins a.cGame dx []) ∧
  ∀ H' so l st, Ob K H' p a.cGame (gamF so l 0 tp 0) → H' so = some (.lst [.ref st]) → H' l = some (.lst []) → Ob K H' st a.cStanding (stdF ar 0 0) → H so = none → H l = none → H st = none → l ≠ so → SameX p H H' → Q .non H'
def spCopyGame (K : PySem.W.Frag) (a : Ad) : Sp := fun vs H Q _ => ∃ (A : GA) (x : Ge13.Game), vs = [.ref A.g] ∧ GameAt K a H A x ∧
  ∀ H' (B : GA), Same H H' → GameAt K a H' B x → B.ss = A.ss → H B.g = none → H B.so = none → H B.l = none → Q (.ref B.g) H'
def backOn (x : Ge13.Game) (i : Nat) : Ge13.Game := { x with keys := x.keys.take i, now := Ge13.playTo x i, rest := 0 }
def spGoBack (K : PySem.W.Frag) (a : Ad) : Sp := fun vs H Q _ => ∃ (A : GA) (x : Ge13.Game) (i : Nat), vs = [.ref A.g, iv i] ∧ GameAt K a H A x ∧ i ≤ x.keys.length ∧
  ∀ H' A', GameAt K a H' A' (backOn x i) → Went H A H' A' → Q .non H'
section
variable {P : Program} {w : World} {K : PySem.W.Frag} {mg : Str → Option Value} {base : Heap} {a : Ad} (T : Txt K mg a)
include T

theorem c_Game : C8.Mak P w K mg base 3 "Game" a.cGame (spGame K a) [] := by
  obtain ⟨f, fd, M, hm, F, b⟩ := T.d_Game
  refine C8.mak0 M hm F b .nil sc_Game_init (fun vs H Q E h => ?len) (fun cdv A0 outer s H vs Q E hr h => ⟨_, (pss_cons (ps_fld (pv 0) (pe_lst (pa_cons (C8.pe_mk (c_Standing T) hr (by decide) (by rfl) (pa_cons (pv 1) pa_nil)) pa_nil)) rfl) (pss_cons (ps_fld (pv 0) (pe_lst pa_nil) rfl) (pss_cons (ps_fld (pv 0) pe_int rfl) (pss_cons (ps_fld (pv 0) (pv 2) rfl) (pss_one (ps_fld (pv 0) pe_int rfl)))))), ?rd⟩)
  case len => obtain ⟨p, dx, ar, tp, rfl, _⟩ := h; rfl
  case rd =>
    obtain ⟨p, dx, ar, tp, rfl, hp, k⟩ := h
    refine s_seq (s_fldLstM (a_cons (is_var rfl) (a_nil ?_)))
    refine mk_in (mk := mkStanding) (us := [.ref ar]) (fs := stdF ar 0 0) rfl fun st H1 hst sm1 ob1 => ⟨by decide, fun so hso => ?_⟩
    have hp1 := sm1 _ _ hp
    have nso : so ≠ p := (ne_of_none hp1 hso).symm
    obtain ⟨ds, es⟩ := ob1
    have nst : st ≠ p := (ne_of_none hp hst).symm
    have nsts : st ≠ so := ne_of_none es hso
    refine fld_in (is_var rfl) (fs := []) ⟨dx, by rw [upd_ne nso.symm]; exact hp1⟩ T.k_Game (by decide) (by show 0 < 1000; decide) fun dx1 _ => ?_
    refine s_seq (s_fldLst isA_nil (Nat.zero_le _) fun l hl => ?_)
    obtain ⟨nlp, hl1⟩ := upd_none hl
    obtain ⟨nlso, hl0⟩ := upd_none hl1
    have nstl : st ≠ l := ne_of_none es hl0
    refine fld_in (is_var rfl) (fs := putF "stood" (.ref so) []) ⟨dx1, by rw [upd_ne nlp.symm, upd_same]⟩ T.k_Game (by decide) (by show 1 < 1000; decide) fun dx2 _ => ?_
    refine s_seq (s_fld is_c (is_var rfl) ⟨dx2, upd_same⟩ T.k_Game (by decide) (by show 2 < 1000; decide) fun dx3 _ => ?_)
    refine s_seq (s_fld (is_var rfl) (is_var rfl) ⟨dx3, upd_same⟩ T.k_Game (by decide) (by show 3 < 1000; decide) fun dx4 _ => ?_)
    refine s_fld is_c (is_var rfl) ⟨dx4, upd_same⟩ T.k_Game (by decide) (by show 4 < 1000; decide) fun dx5 _ => ?_
    rw [upd_upd, upd_upd, upd_upd]
    refine k _ so l st ⟨dx5, by rw [upd_same]; rfl⟩ ?_ ?_ ⟨ds, ?_⟩ (sm1.free hso) (sm1.free hl0) hst nlso ?_
    · rw [upd_ne nso, upd_ne nlso.symm, upd_ne nso, upd_same]
    · rw [upd_ne nlp, upd_same]
    · rw [upd_ne nst, upd_ne nstl, upd_ne nst, upd_ne nsts]
      exact es
    · intro b o hb n
      have hb1 := sm1 _ _ hb
      rw [upd_ne n, upd_ne (ne_of_none hb1 hl0), upd_ne n, upd_ne (ne_of_none hb1 hso)]
      exact hb1
theorem c_copy_game : C8.Cal P w K mg base 5 "copy_game" (spCopyGame K a) [] := by
  obtain ⟨f, fd, F, b⟩ := T.d_copy_game
  refine C8.cal0 F b .nil sc_copy_game (fun vs H Q E h => ?len) (fun cdv A0 outer s H vs Q E hr h => ⟨_, (pss_cons (ps_set (i := 1) sc_copy_game.nd rfl (Or.inl rfl) (C8.pe_mk (c_Game T) hr (by decide) (by rfl) (pa_cons (pe_fld (pe_ix ix_list (pe_fld (pv 0) rfl) pe_int (fun _ _ => rfl)) rfl) (pa_cons (pe_fld (pv 0) rfl) pa_nil)))) (pss_cons (ps_fld (pv 1) (pe_callTy call_list_of (by rfl) T.n_list (by decide +kernel) (pa_cons (pe_fld (pv 0) rfl) pa_nil)) rfl) (pss_cons (ps_fld (pv 1) (pe_callTy call_list_of (by rfl) T.n_list (by decide +kernel) (pa_cons (pe_fld (pv 0) rfl) pa_nil)) rfl) (pss_cons (ps_fld (pv 1) (pe_fld (pv 0) rfl) rfl) (pss_cons (ps_fld (pv 1) (pe_fld (pv 0) rfl) rfl) (pss_one (ps_ret (pv 1)))))))), ?rd⟩)
  case len => obtain ⟨A, x, rfl, _⟩ := h; rfl
  case rd =>
    obtain ⟨A, x, rfl, h, k⟩ := h
    obtain ⟨s0, hs0, hst0⟩ := h.get (Nat.zero_le _)
    have i0 : Is (tFld K (tOp (rIxL K) (tFld K (tVar 0) "stood") (tC (.int 0))) "cave") (start nm_copy_game [.ref A.g]) H (.ref s0.cv) :=
      is_fld (is_ixL (is_fld (is_var rfl) h.g T.k_Game (by decide) l_stood) is_c (SqL.of h.so) (atI_nat (j := 0) (by rw [List.getElem?_map, hs0]; rfl))) hst0.ob T.k_Standing (by decide) l_cave
    refine s_seq (s_setMake (isA_cons i0 (isA_cons (is_fld (is_var rfl) h.g T.k_Game (by decide) l_parts) isA_nil)) fun g dx hg hdx nd => ?_)
    have sm0 : Same H (upd (upd H dx (.own g)) g (.ins a.cGame dx [])) := fun b o hb => by
      rw [upd_ne (ne_of_none hb hg), upd_ne (ne_of_none hb hdx)]
      exact hb
    refine ⟨g, dx, s0.cv, x.step, rfl, upd_same, fun H1 so0 l0 st0 ob1 _ _ _ _ _ _ _ sx1 => ⟨rfl, ?_⟩⟩
    have sm1 : Same H H1 := made_same hg hdx sx1
    have h1 := h.same sm1
    -- twin.stood = list(game.stood)
    refine s_seq (s_fldList (is_fld (is_var rfl) h1.g T.k_Game (by decide) l_stood) (SqL.of h1.so) fun so hso => ?_)
    obtain ⟨d1, e1⟩ := ob1
    have ngso : g ≠ so := ne_of_none e1 hso
    refine fld_in (is_var rfl) (fs := gamF so0 l0 0 x.step 0) ⟨d1, by rw [upd_ne ngso]; exact e1⟩ T.k_Game (by decide) (by show 5 < 1000; decide) fun dx2 _ => ?_
    generalize hH2 : upd (upd H1 so (.lst (A.ss.map fun s => V.ref s.st))) g (.ins a.cGame dx2 (putF "stood" (.ref so) (gamF so0 l0 0 x.step 0))) = H2
    have sm2 : Same H H2 := fun b o hb => by
      rw [← hH2, upd_ne (ne_of_none hb hg), upd_ne (ne_of_none (sm1 _ _ hb) hso)]
      exact sm1 _ _ hb
    have h2 := h.same sm2
    have g2 : H2 g = some (.ins a.cGame dx2 (gamF so l0 0 x.step 0)) := by rw [← hH2, upd_same]; rfl
    have so2 : H2 so = some (.lst (A.ss.map fun s => V.ref s.st)) := by rw [← hH2, upd_ne ngso.symm, upd_same]
    have nso : H so = none := sm1.free hso
    -- twin.pressed = list(game.pressed)
    refine s_seq (s_fldList (is_fld (is_var rfl) h2.g T.k_Game (by decide) l_pressed) (SqL.of h2.l) fun l hl => ?_)
    have ngl : g ≠ l := ne_of_none g2 hl
    have nsol : so ≠ l := ne_of_none so2 hl
    refine fld_in (is_var rfl) (fs := gamF so l0 0 x.step 0) ⟨dx2, by rw [upd_ne ngl]; exact g2⟩ T.k_Game (by decide) (by show 5 < 1000; decide) fun dx3 _ => ?_
    generalize hH3 : upd (upd H2 l (.lst (x.keys.map iv))) g (.ins a.cGame dx3 (putF "pressed" (.ref l) (gamF so l0 0 x.step 0))) = H3
    have sm3 : Same H H3 := fun b o hb => by
      rw [← hH3, upd_ne (ne_of_none hb hg), upd_ne (ne_of_none (sm2 _ _ hb) hl)]
      exact sm2 _ _ hb
    have h3 := h.same sm3
    have g3 : H3 g = some (.ins a.cGame dx3 (gamF so l 0 x.step 0)) := by rw [← hH3, upd_same]; rfl
    have so3 : H3 so = some (.lst (A.ss.map fun s => V.ref s.st)) := by rw [← hH3, upd_ne ngso.symm, upd_ne nsol]; exact so2
    have l3 : H3 l = some (.lst (x.keys.map iv)) := by rw [← hH3, upd_ne ngl.symm, upd_same]
    have nl : H l = none := sm2.free hl
    have nA : A.g ≠ g := by
      obtain ⟨d4, e4⟩ := h.g
      exact ne_of_none e4 hg
    refine s_seq (s_fld (is_fld (is_var rfl) h3.g T.k_Game (by decide) l_left) (is_var rfl) ⟨dx3, g3⟩ T.k_Game (by decide) (by show 5 < 1000; decide) fun dx4 _ => ?_)
    refine s_seq (s_fld (is_fld (is_var rfl) (ob_up h3.g nA) T.k_Game (by decide) l_held) (is_var rfl) ⟨dx4, upd_same⟩ T.k_Game (by decide) (by show 5 < 1000; decide) fun dx5 _ => ?_)
    rw [upd_upd]
    generalize hH5 : upd H3 g (.ins a.cGame dx5 (putF "held" (iv x.held) (putF "left_over" (iv x.rest) (gamF so l 0 x.step 0)))) = H5
    have smz : Same H H5 := fun b o hb => by
      rw [← hH5, upd_ne (ne_of_none hb hg)]
      exact sm3 _ _ hb
    have hz := h.same smz
    refine s_ret (is_var rfl) (k _ ⟨g, so, l, A.ss⟩ smz ?_ rfl hg nso nl)
    exact {
      g := ⟨dx5, by rw [← hH5, upd_same]; rfl⟩
      l := by rw [← hH5, upd_ne ngl.symm]; exact l3
      so := by rw [← hH5, upd_ne ngso.symm]; exact so3
      len := h.len
      st := hz.st
      nw := h.nw
      n0 := nsol.symm
      nf := fun b hb p => by
        obtain ⟨o, e⟩ := h.fz p
        rcases hb with rfl | rfl | rfl
        · exact ne_of_none e hg rfl
        · exact ne_of_none e nso rfl
        · exact ne_of_none e nl rfl }
theorem c_go_back : C8.Cal P w K mg base 1 "go_back" (spGoBack K a) [] := by
  obtain ⟨f, fd, F, b⟩ := T.d_go_back
  refine C8.cal0 F b .nil sc_go_back (fun vs H Q E h => ?len) (fun cdv A0 outer s H vs Q E hr h => ⟨_, (pss_cons (ps_fld (pv 0) (pe_slice sl_list (pe_fld (pv 0) rfl) po_none (po_some (pe_op op_add (pv 1) pe_int))) rfl) (pss_cons (ps_fld (pv 0) (pe_slice sl_list (pe_fld (pv 0) rfl) po_none (po_some (pv 1))) rfl) (pss_one (ps_fld (pv 0) pe_int rfl)))), ?rd⟩)
  case len => obtain ⟨A, x, i, rfl, _⟩ := h; rfl
  case rd =>
    obtain ⟨A, x, i, rfl, h, hi, k⟩ := h
    have hup : Is (tOp (rI0 fun i j => .int (i + j)) (tVar 1) (tC (.int 1))) (start nm_go_back [.ref A.g, iv i]) H (.int ((i + 1 : Nat) : Int)) := is_to (is_op0 (is_var rfl) is_c) (by omega)
    refine s_seq (s_fldSl (is_fld (is_var rfl) h.g T.k_Game (by decide) l_stood) (SqL.of h.so) hup fun so hso => ?_)
    rw [cut_take, ← List.map_take]
    obtain ⟨dg, eg⟩ := h.g
    have ngso : A.g ≠ so := ne_of_none eg hso
    refine fld_in (is_var rfl) (fs := gamF A.so A.l x.rest x.step x.held) ⟨dg, by rw [upd_ne ngso]; exact eg⟩ T.k_Game (by decide) (by show 5 < 1000; decide) fun dx2 _ => ?_
    generalize hH2 : upd (upd H so (.lst ((A.ss.take (i + 1)).map fun s => V.ref s.st))) A.g (.ins a.cGame dx2 (putF "stood" (.ref so) (gamF A.so A.l x.rest x.step x.held))) = H2
    have k2 : ∀ b o, H b = some o → b ≠ A.g → H2 b = some o := fun b o hb n => by
      rw [← hH2, upd_ne n, upd_ne (ne_of_none hb hso)]
      exact hb
    have g2 : H2 A.g = some (.ins a.cGame dx2 (gamF so A.l x.rest x.step x.held)) := by rw [← hH2, upd_same]; rfl
    have so2 : H2 so = some (.lst ((A.ss.take (i + 1)).map fun s => V.ref s.st)) := by rw [← hH2, upd_ne ngso.symm, upd_same]
    have l2 : H2 A.l = some (.lst (x.keys.map iv)) := k2 _ _ h.l h.ngl.symm
    refine s_seq (s_fldSl (is_fld (is_var rfl) ⟨dx2, g2⟩ T.k_Game (by decide) l_pressed) (SqL.of l2) (is_var rfl) fun l hl => ?_)
    rw [cut_take, ← List.map_take]
    have ngl : A.g ≠ l := ne_of_none g2 hl
    have nsol : so ≠ l := ne_of_none so2 hl
    refine fld_in (is_var rfl) (fs := gamF so A.l x.rest x.step x.held) ⟨dx2, by rw [upd_ne ngl]; exact g2⟩ T.k_Game (by decide) (by show 5 < 1000; decide) fun dx3 _ => ?_
    refine s_fld is_c (is_var rfl) ⟨dx3, upd_same⟩ T.k_Game (by decide) (by show 5 < 1000; decide) fun dx4 _ => ?_
    rw [upd_upd]
    generalize hH4 : upd (upd H2 l (.lst ((x.keys.take i).map iv))) A.g (.ins a.cGame dx4 (putF "left_over" (.int 0) (putF "pressed" (.ref l) (gamF so A.l x.rest x.step x.held)))) = H4
    have k4 : ∀ b o, H b = some o → b ≠ A.g → H4 b = some o := fun b o hb n => by
      have q := k2 b o hb n
      rw [← hH4, upd_ne n, upd_ne (ne_of_none q hl)]
      exact q
    have nl : H l = none := by
      cases q : H l with
      | none => rfl
      | some o =>
        rw [k2 l o q ngl.symm] at hl
        cases hl
    refine k H4 ⟨A.g, so, l, A.ss.take (i + 1)⟩ ?_ ?_
    · exact {
        g := ⟨dx4, by rw [← hH4, upd_same]; rfl⟩
        l := by rw [← hH4, upd_ne ngl.symm, upd_same]; rfl
        so := by rw [← hH4, upd_ne ngso.symm, upd_ne nsol]; exact so2
        len := by
          show (A.ss.take (i + 1)).length = (x.keys.take i).length + 1
          rw [List.length_take, List.length_take, h.len]
          omega
        st := fun j s hj => by
          have hj : (A.ss.take (i + 1))[j]? = some s := hj
          rw [List.getElem?_take] at hj
          split at hj
          · rename_i hlt
            show StAt K a H4 s (Ge13.playTo (backOn x i) j)
            unfold backOn
            rw [playTo_cut x (by omega)]
            exact (h.st j s hj).keep fun b o hb p => k4 b o hb fun z => h.nf b (.inl z) ⟨s, List.mem_of_getElem? hj, p⟩
          · cases hj
        nw := by
          show Ge13.playTo x i = Ge13.playTo (backOn x i) (x.keys.take i).length
          unfold backOn
          rw [List.length_take, Nat.min_eq_left hi, playTo_cut x (Nat.le_refl _)]
        n0 := nsol.symm
        nf := fun b hb p => by
          obtain ⟨s, hs, p⟩ := p
          have p' : Froz A.ss b := ⟨s, List.mem_of_mem_take hs, p⟩
          obtain ⟨o, e⟩ := h.fz p'
          rcases hb with rfl | rfl | rfl
          · exact h.nf _ (.inl rfl) p'
          · exact ne_of_none e hso rfl
          · exact ne_of_none e nl rfl }
    · exact {
        g := rfl
        so := .inr hso
        l := .inr nl
        fz := fun b p => by
          obtain ⟨s, hs, p⟩ := p
          exact .inl ⟨s, List.mem_of_mem_take hs, p⟩
        keep := fun b o hb n => k4 b o hb fun z => n (.inl z)
        free := fun b hb => by
          rw [← hH4] at hb
          have q := (upd_none (upd_none hb).2).2
          rw [← hH2] at q
          exact (upd_none (upd_none q).2).2 }
end
end G

set_option Elab.async false
set_option linter.all false
set_option maxRecDepth 100000
set_option maxHeartbeats 4000000
namespace G
open PySem PySem.Spec PyProof.Rows L2
open Ge13 (at_ put gems beside cellTo Marks goTo playerTurn stoneTurn monsterTurn)
open Gm
open U

/-! ### writing a cave; what there is in it; caves alike -/
theorem cut_row {c : Ge13.Cave} {y : Nat} (hy : y < c.h) (hx : (plc c).length = (c.h + 2) * (c.w + 2)) : cutV (plc c) (some ((pos c 0 y : Nat) : Int)) (some ((pos c 0 y + c.w : Nat) : Int)) = (rowOf c y).map iv := by
  have h1 := pos_lt c (x := c.w) (y := y) (Nat.le_refl _) (by omega)
  have h2 : pos c c.w y = pos c 0 y + c.w := by unfold pos; omega
  unfold cutV
  rw [HT.sIx_nat, HT.sIx_nat, hx, Nat.min_eq_left (by omega), Nat.min_eq_left (by omega), Nat.add_sub_cancel_left, plc, ← List.map_drop, ← List.map_take, rim_row hy]
section
variable {K : PySem.W.Frag} {σ : L2.St} {H : Hp} {D : Ends} {te : TE} {t : L2.TA} {vs xs : List V} {i : Nat} {l : Addr} {v : V}
theorem s_setLst (h : IsA t σ H vs) (hl : vs.length ≤ sizeLine) (k : ∀ p, H p = none → D.nx (σ.set i (some (.ref p))) (upd H p (.lst vs))) : tAsg (tLst t) (gName i) D σ H := h _ ⟨hl, k⟩
/-- return xs[i:j] -/
theorem s_retSl {tl tlo thi : TE} {p : Addr} {ys : List V} {i j : Int} (hp : Is tl σ H (.ref p)) (hl : SqL K H p ys) (hi : Is tlo σ H (.int i)) (hj : Is thi σ H (.int j)) (k : ∀ q, H q = none → D.rt (.ref q) (upd H q (.lst (cutV ys (some i) (some j))))) :
    tRet (tSl (rSlL K) tl (tPart tlo) (tPart thi)) D σ H := hp _ (hi _ ⟨i, rfl, hj _ ⟨j, rfl, p, ys, rfl, hl, k⟩⟩)
/-- a call that gives a new list -/
def NewL (sp : Sp) (vs : List V) (H : Hp) (ys : List V) : Prop := ∀ R : VK, (∀ q, H q = none → R (.ref q) (upd H q (.lst ys))) → sp (vs ++ []) H R C8.E0
/-- xs.extend([.. for x in f(..)]) -/
theorem s_extNew {te2 : TE} {sp : Sp} {s : Nat} {g : V → V} {ys : List V} (h : Is te σ H (.ref l)) (hl : H l = some (.lst xs)) (ha : IsA t σ H vs) (hs : NewL sp vs H ys)
    (hn : ys.length ≤ 100000) (he : ∀ x ∈ ys, ∀ H', Same H H' → Is te2 ((σ.set s none).set s (some x)) H' (g x)) (hz : xs.length + ys.length ≤ sizeLine)
    (k : ∀ H1, (∀ b o, H b = some o → b ≠ l → H1 b = some o) → H1 l = some (.lst (xs ++ ys.map g)) → D.nx σ H1) :
    tDrop (tBM K "list" rExtend te (tCons (tLc (iList K (tCall sp [] C8.E0 t)) (gName s) tYes te2 [s]) tNil)) D σ H :=
  h _ ⟨.inl ⟨rfl, _, SqL.of hl⟩, ha _ (hs _ fun q hq => by
    have z := lcL (K := K) (H := upd H q (.lst ys)) (tl := tC (.ref q)) (te := te2) (s := s) (σ := σ) (g := g) (xs := ys) (p := q) (Q := fun x H1 => rExtend (.ref l) [x] H1 fun _ H2 => D.nx σ H2) is_c (SqL.of upd_same) hn (fun x hx H' sm => he x hx H' ((same_new hq).trans sm)) fun D' hD => by
      have nq : l ≠ q := ne_of_none hl hq
      have nl : l ≠ D' := ne_of_none (same_new hq _ _ hl) hD
      refine ⟨l, D', xs, _, rfl, rfl, by rw [upd_ne nl, upd_ne nq]; exact hl, upd_same, by rw [List.length_map]; exact hz, k _ (fun b o hb nb => ?_) upd_same⟩
      rw [upd_ne nb, upd_ne (ne_of_none (same_new hq _ _ hb) hD), upd_ne (ne_of_none hb hq)]
      exact hb
    exact z)⟩
end
theorem map_get {w : List Nat} {i : Nat} {x : V} (h : (w.map iv)[i]? = some x) : ∃ b, w[i]? = some b ∧ x = iv b := by
  rw [List.getElem?_map] at h
  cases e : w[i]? with
  | none => rw [e] at h; cases h
  | some b => rw [e] at h; exact ⟨b, rfl, (Option.some.inj h).symm⟩
theorem s_forList {K : PySem.W.Frag} {tl : TE} {xs : List V} {g : TG} {tb : TS} {D : Ends} {σ : L2.St} {H : Hp} {p : Addr} (h : Is tl σ H (.ref p)) (hl : SqL K H p xs)
    (k : ∃ Pv : Nat → L2.St → Hp → Prop, Pv 0 σ H ∧ (∀ i σ H', i ≤ xs.length → Pv i σ H' → SqL K H' p xs) ∧
      (∀ i x σ H', xs[i]? = some x → Pv i σ H' → g x σ H' fun σ2 H2 => tb { D with nx := Pv (i + 1), ct := Pv (i + 1), bk := D.nx } σ2 H2) ∧ (∀ σ H', Pv xs.length σ H' → D.nx σ H')) : tFor (iList K tl) g tb D σ H :=
  h _ ⟨p, rfl, ⟨xs, hl⟩, let ⟨Pv, h0, hq, hs, hd⟩ := k; for_list Pv h0 hq hs hd⟩
/-- for x in f(..): -/
theorem s_forNew {K : PySem.W.Frag} {t : L2.TA} {sp : Sp} {vs ys : List V} {g : TG} {tb : TS} {D : Ends} {σ : L2.St} {H : Hp} (ha : IsA t σ H vs) (hs : NewL sp vs H ys)
    (k : ∀ q, H q = none → ∃ Pv : Nat → L2.St → Hp → Prop, Pv 0 σ (upd H q (.lst ys)) ∧ (∀ i σ H', i ≤ ys.length → Pv i σ H' → SqL K H' q ys) ∧
      (∀ i x σ H', ys[i]? = some x → Pv i σ H' → g x σ H' fun σ2 H2 => tb { D with nx := Pv (i + 1), ct := Pv (i + 1), bk := D.nx } σ2 H2) ∧ (∀ σ H', Pv ys.length σ H' → D.nx σ H')) : tFor (iList K (tCall sp [] C8.E0 t)) g tb D σ H :=
  ha _ (hs _ fun q hq => ⟨q, rfl, ⟨ys, SqL.of upd_same⟩, let ⟨Pv, h0, hq, hs, hd⟩ := k q hq; for_list Pv h0 hq hs hd⟩)
section
variable {K : PySem.W.Frag} {σ : L2.St} {H : Hp} {D : Ends} {te : TE} {i : Nat} {p : Addr} {ys : List V}
theorem s_setRep {t : L2.TA} {xs : List V} {n : Int} (h : IsA t σ H xs) (hx : xs.length ≤ 1) (i0 : ∀ H', Same H H' → Is te σ H' (.int n)) (hn : 0 ≤ n ∧ n ≤ 1000) (k : ∀ l H', H l = none → Same H H' → H' l = some (.lst (List.replicate n.toNat xs).flatten) → D.nx (σ.set i (some (.ref l))) H') : tAsg (tOp rRep (tLst t) te) (gName i) D σ H :=
  h _ ⟨Nat.le_trans hx (by decide), fun q hq => i0 _ (same_new hq) _ ⟨q, n, xs, rfl, rfl, upd_same, by omega, by omega, Nat.le_trans (Nat.mul_le_mul hx (by omega : n.toNat ≤ 1000)) (by decide), fun l hl => by
    obtain ⟨nl, hl0⟩ := upd_none hl
    exact k l _ hl0 ((same_new hq).trans (same_new hl)) upd_same⟩⟩
end
theorem s_retCatL {σ : L2.St} {H : Hp} {D : Ends} {te : TE} {t1 : L2.TA} {xs ys : List V} {t : Addr} (h : IsA t1 σ H xs) (i : ∀ H', Is te σ H' (.ref t)) (ht : H t = some (.lst ys)) (hn : xs.length + ys.length ≤ 100000)
    (k : ∀ p H2, H p = none → Same H H2 → H2 p = some (.lst (xs ++ ys)) → D.rt (.ref p) H2) : tRet (tOp rCat (tLst t1) te) D σ H :=
  h _ ⟨Nat.le_trans (Nat.le_add_right _ _) (Nat.le_trans hn (by decide)), fun p hp => i _ _ ⟨p, t, xs, ys, rfl, rfl, upd_same, by rw [upd_ne (ne_of_none ht hp)]; exact ht, Nat.le_trans hn (by decide), fun r hr => by
    obtain ⟨n1, hr0⟩ := upd_none hr
    exact k r _ hr0 ((same_new hp).trans (same_new hr)) upd_same⟩⟩
theorem dec_nat (a b : Nat) : decide ((a : Int) = (b : Int)) = decide (a = b) := by
  by_cases z : a = b
  · rw [decide_eq_true z, decide_eq_true (by omega)]
  · rw [decide_eq_false z, decide_eq_false (by omega)]
theorem dec_lt (a b : Nat) : decide ((a : Int) < (b : Int)) = decide (a < b) := by
  by_cases z : a < b
  · rw [decide_eq_true z, decide_eq_true (by omega)]
  · rw [decide_eq_false z, decide_eq_false (by omega)]
def spRowOf (K : PySem.W.Frag) (a : Ad) : Sp := fun vs H Q _ => ∃ (cv pl : Addr) (c : Ge13.Cave) (y : Nat), vs = [.ref cv, iv y] ∧ CavAt K a H cv pl c ∧ y < c.h ∧ y < 1000 ∧ ∀ p, H p = none → Q (.ref p) (upd H p (.lst ((rowOf c y).map iv)))
def spWithin (K : PySem.W.Frag) (a : Ad) : Sp := fun vs H Q _ => ∃ (cv p : Addr) (w h x y : Nat), vs = [.ref cv, iv x, iv y] ∧ Ob K H cv a.cCave (cavF w h p) ∧ Q (.bl (decide (x < w) && decide (y < h))) H
def spThingAt (K : PySem.W.Frag) (a : Ad) : Sp := fun vs H Q _ => ∃ (cv pl : Addr) (c : Ge13.Cave) (x y : Nat), vs = [.ref cv, iv x, iv y] ∧ CavAt K a H cv pl c ∧ x < c.w ∧ y < c.h ∧ y < 1000 ∧ Q (iv (at_ c x y)) H
def spSame (K : PySem.W.Frag) (a : Ad) : Sp := fun vs H Q _ => ∃ (cv pl cv' pl' : Addr) (c c' : Ge13.Cave), vs = [.ref cv, .ref cv'] ∧ CavAt K a H cv pl c ∧ CavAt K a H cv' pl' c' ∧ Q (.bl (Gm.same c c')) H
def spAlike (K : PySem.W.Frag) (a : Ad) : Sp := fun vs H Q _ => ∃ (s s' : SA) (c c' : Ge13.Cave), vs = [.ref s.st, .ref s'.st] ∧ StAt K a H s c ∧ StAt K a H s' c' ∧ Q (.bl (alike c c')) H
def spThings (K : PySem.W.Frag) (a : Ad) : Sp := fun vs H Q _ => ∃ (cv pl : Addr) (c : Ge13.Cave), vs = [.ref cv] ∧ CavAt K a H cv pl c ∧ Wf c ∧ ∀ H' l, Same H H' → H l = none → H' l = some (.lst ((cntTo c.cells).map iv)) → Q (.ref l) H'
def spWrite (K : PySem.W.Frag) (a : Ad) : Sp := fun vs H Q _ => ∃ (cv pl : Addr) (c : Ge13.Cave), vs = [.ref cv] ∧ CavAt K a H cv pl c ∧ Wf c ∧ ∀ H' l, Same H H' → H l = none → H' l = some (.lst ((Ge13.write c).map iv)) → Q (.ref l) H'
def ivN : V → Nat
  | .int i => i.toNat
  | _ => 0
theorem ivN_iv (n : Nat) : ivN (iv n) = n := by show ((n : Int)).toNat = n; omega
theorem sgn_map (l : List Nat) : (l.map iv).map (fun v => iv (sgn (ivN v))) = (l.map sgn).map iv := by
  rw [List.map_map, List.map_map]
  apply List.map_congr_left
  intro n _
  show iv (sgn (ivN (iv n))) = iv (sgn n)
  rw [ivN_iv]
def spCounted (K : PySem.W.Frag) (a : Ad) : Sp := fun vs H Q _ => ∃ (cv pl : Addr) (c : Ge13.Cave), vs = [.ref cv] ∧ CavAt K a H cv pl c ∧ Wf c ∧ ∀ H' l, Same H H' → H l = none → H' l = some (.lst (((Ge13.write c).length :: Ge13.write c).map iv)) → Q (.ref l) H'
def partV (o : Option Nat) : V := match o with
  | none => .non
  | some k => iv k
def spParting (K : PySem.W.Frag) (a : Ad) : Sp := fun vs H Q _ => ∃ (A B : GA) (x y : Ge13.Game), vs = [.ref A.g, .ref B.g] ∧ GameAt K a H A x ∧ GameAt K a H B y ∧ x.keys.length < 1000 ∧
  (∀ i, i ≤ x.keys.length → i ≤ y.keys.length → (alike (Ge13.playTo x i) (Ge13.playTo y i) = true ↔ Ge13.playTo x i = Ge13.playTo y i)) ∧ Q (partV (Ge13.firstOther x y)) H
section
variable {P : Program} {w : World} {K : PySem.W.Frag} {mg : Str → Option Value} {base : Heap} {a : Ad} (T : Txt K mg a)
include T

theorem c_row_of : C8.Cal P w K mg base 3 "row_of" (spRowOf K a) [] := by
  obtain ⟨f, fd, F, b⟩ := T.d_row_of
  refine C8.cal0 F b .nil sc_row_of (fun vs H Q E h => ?len) (fun cdv A0 outer s H vs Q E hr h => ⟨_, (pss_cons (ps_set (i := 2) sc_row_of.nd rfl (Or.inl rfl) (C8.pe_c (c_row_begin T) hr (by decide) (by rfl) (pa_cons (pv 0) (pa_cons (pv 1) pa_nil)))) (pss_one (ps_ret (pe_slice sl_list (pe_fld (pv 0) rfl) (po_some (pv 2)) (po_some (pe_op op_add (pv 2) (pe_fld (pv 0) rfl))))))), ?rd⟩)
  case len => obtain ⟨cv, pl, c, y, rfl, _⟩ := h; rfl
  case rd =>
    obtain ⟨cv, pl, c, y, rfl, h, hy, hy2, k⟩ := h
    have hlen : (plc c).length = (c.h + 2) * (c.w + 2) := by rw [plc, List.length_map, rim_len]
    have ec := cut_row hy hlen
    refine s_seq (s_set (is_call (isA_cons (is_var rfl) (isA_cons (is_var rfl) isA_nil)) (v := iv (pos c 0 y)) fun Q' E' q => ⟨cv, pl, c.w, c.h, y, rfl, hy2, h.ob, q⟩) ?_)
    refine s_retSl (i := ((pos c 0 y : Nat) : Int)) (j := ((pos c 0 y + c.w : Nat) : Int)) (is_fld (is_var rfl) h.ob T.k_Cave (by decide) l_places) (SqL.of h.ls) (is_var rfl) (is_to (is_op0 (is_var rfl) (is_fld (is_var rfl) h.ob T.k_Cave (by decide) l_wide)) (by omega)) fun p hp => ?_
    rw [ec]
    exact k p hp
theorem c_is_within : C8.Cal P w K mg base 1 "is_within" (spWithin K a) [] := by
  obtain ⟨f, fd, F, b⟩ := T.d_is_within
  refine C8.cal0 F b .nil sc_is_within (fun vs H Q E h => ?len) (fun cdv A0 outer s H vs Q E hr h => ⟨_, (pss_one (ps_ret (pe_and (pe_cmpR op_lt (pv 1) (pe_fld (pv 0) rfl) (nomark _)) (pe_one (pe_cmpR op_lt (pv 2) (pe_fld (pv 0) rfl) (nomark _)))))), ?rd⟩)
  case len => obtain ⟨cv, p, w, h, x, y, rfl, _⟩ := h; rfl
  case rd =>
    obtain ⟨cv, p, w', hh, x, y, rfl, h, k⟩ := h
    rw [← dec_lt, ← dec_lt] at k
    exact s_ret (is_and (is_op0 (is_var rfl) (is_fld (is_var rfl) h T.k_Cave (by decide) l_wide)) fun _ => is_op0 (is_var rfl) (is_fld (is_var rfl) h T.k_Cave (by decide) l_high)) k
theorem c_thing_at : C8.Cal P w K mg base 3 "thing_at" (spThingAt K a) [] := by
  obtain ⟨f, fd, F, b⟩ := T.d_thing_at
  refine C8.cal0 F b .nil sc_thing_at (fun vs H Q E h => ?len) (fun cdv A0 outer s H vs Q E hr h => ⟨_, (pss_one (ps_ret (pe_ix ix_list (pe_fld (pv 0) rfl) (pe_op op_add (C8.pe_c (c_row_begin T) hr (by decide) (by rfl) (pa_cons (pv 0) (pa_cons (pv 2) pa_nil))) (pv 1)) (fun _ _ => rfl)))), ?rd⟩)
  case len => obtain ⟨cv, pl, c, x, y, rfl, _⟩ := h; rfl
  case rd =>
    obtain ⟨cv, pl, c, x, y, rfl, h, hx, hy, hy2, k⟩ := h
    refine s_ret (is_ixL (is_fld (is_var rfl) h.ob T.k_Cave (by decide) l_places) (is_to (is_op0 (is_call (isA_cons (is_var rfl) (isA_cons (is_var rfl) isA_nil)) (v := iv ((y + 1) * (c.w + 2) + 1)) fun Q' E' q => ⟨cv, pl, c.w, c.h, y, rfl, hy2, h.ob, q⟩) (is_var rfl)) (j := ((pos c x y : Nat) : Int)) ?_) (SqL.of h.ls) (at_iv (rim_pos c (Nat.le_of_lt hx) (Nat.le_of_lt hy)))) k
    unfold pos
    generalize (y + 1) * (c.w + 2) = z
    omega
theorem c_are_same_caves : C8.Cal P w K mg base 1 "are_same_caves" (spSame K a) [] := by
  obtain ⟨f, fd, F, b⟩ := T.d_are_same_caves
  refine C8.cal0 F b .nil sc_are_same_caves (fun vs H Q E h => ?len) (fun cdv A0 outer s H vs Q E hr h => ⟨_, (pss_one (ps_ret (pe_and (pe_cmpR op_eq (pe_fld (pv 0) rfl) (pe_fld (pv 1) rfl) (nomark _)) (pe_and (pe_cmpR op_eq (pe_fld (pv 0) rfl) (pe_fld (pv 1) rfl) (nomark _)) (pe_one (pe_cmpR (op_eqD hr.units) (pe_fld (pv 0) rfl) (pe_fld (pv 1) rfl) (nomark _))))))), ?rd⟩)
  case len => obtain ⟨cv, pl, cv', pl', c, c', rfl, _⟩ := h; rfl
  case rd =>
    obtain ⟨cv, pl, cv', pl', c, c', rfl, h, h', k⟩ := h
    unfold Gm.same at k
    rw [← dec_nat, ← dec_nat] at k
    exact s_ret (is_and (is_eqI (is_fld (is_var rfl) h.ob T.k_Cave (by decide) l_wide) (is_fld (is_var rfl) h'.ob T.k_Cave (by decide) l_wide)) fun _ => is_and (is_eqI (is_fld (is_var rfl) h.ob T.k_Cave (by decide) l_high) (is_fld (is_var rfl) h'.ob T.k_Cave (by decide) l_high)) fun _ => is_eqLs (is_fld (is_var rfl) h.ob T.k_Cave (by decide) l_places) (is_fld (is_var rfl) h'.ob T.k_Cave (by decide) l_places) h.ls h'.ls) k
theorem c_stand_alike : C8.Cal P w K mg base 2 "stand_alike" (spAlike K a) [] := by
  obtain ⟨f, fd, F, b⟩ := T.d_stand_alike
  refine C8.cal0 F b .nil sc_stand_alike (fun vs H Q E h => ?len) (fun cdv A0 outer s H vs Q E hr h => ⟨_, (pss_cons (ps_if (PW.pt (pw_or (pt_cmpR op_ne (pe_fld (pv 0) rfl) (pe_fld (pv 1) rfl) (nomark _)) (pw_or1 (pt_cmpR op_ne (pe_fld (pv 0) rfl) (pe_fld (pv 1) rfl) (nomark _))))) (pss_one (ps_ret pe_bl)) pss_nil) (pss_one (ps_ret (C8.pe_c (c_are_same_caves T) hr (by decide) (by rfl) (pa_cons (pe_fld (pv 0) rfl) (pa_cons (pe_fld (pv 1) rfl) pa_nil)))))), ?rd⟩)
  case len => obtain ⟨s, s', c, c', rfl, _⟩ := h; rfl
  case rd =>
    obtain ⟨s, s', c, c', rfl, h, h', k⟩ := h
    unfold alike at k
    rw [← dec_nat, ← dec_nat] at k
    refine s_guard (isT_or (isT_t (is_neI (is_fld (is_var rfl) h.ob T.k_Standing (by decide) l_outcome) (is_fld (is_var rfl) h'.ob T.k_Standing (by decide) l_outcome))) fun _ => isT_t (is_neI (is_fld (is_var rfl) h.ob T.k_Standing (by decide) l_points) (is_fld (is_var rfl) h'.ob T.k_Standing (by decide) l_points))) (fun hb => ?_) (fun hb => ?_)
    · rw [if_pos hb] at k
      exact s_ret is_c k
    · rw [if_neg (by rw [hb]; decide)] at k
      exact s_retCall (isA_cons (is_fld (is_var rfl) h.ob T.k_Standing (by decide) l_cave) (isA_cons (is_fld (is_var rfl) h'.ob T.k_Standing (by decide) l_cave) isA_nil)) ⟨s.cv, s.pl, s'.cv, s'.pl, c, c', rfl, h.cv, h'.cv, k⟩
theorem c_find_parting : C8.Cal P w K mg base 3 "find_parting" (spParting K a) [] := by
  obtain ⟨f, fd, F, b⟩ := T.d_find_parting
  refine C8.cal0 F b .nil sc_find_parting (fun vs H Q E h => ?len) (fun cdv A0 outer s H vs Q E hr h => ⟨_, (pss_cons (ps_for PassesOwn.never rfl (pi_range1 (by rfl) T.n_range (pa_cons (pe_op op_add (pe_callB (call_min2 rfl) (by rfl) T.n_min (by decide +kernel) (pa_cons (C8.pe_c (c_count_ticks T) hr (by decide) (by rfl) (pa_cons (pv 0) pa_nil)) (pa_cons (C8.pe_c (c_count_ticks T) hr (by decide) (by rfl) (pa_cons (pv 1) pa_nil)) pa_nil))) pe_int) pa_nil)) (pg_name (i := 2) sc_find_parting.nd rfl (Or.inl rfl)) (pss_one (ps_if (pt_not (pt_val (C8.pe_c (c_stand_alike T) hr (by decide) (by rfl) (pa_cons (C8.pe_c (c_standing_behind T) hr (by decide) (by rfl) (pa_cons (pv 0) (pa_cons (pv 2) pa_nil))) (pa_cons (C8.pe_c (c_standing_behind T) hr (by decide) (by rfl) (pa_cons (pv 1) (pa_cons (pv 2) pa_nil))) pa_nil))))) (pss_one (ps_ret (pv 2))) pss_nil))) (pss_one (ps_ret pe_non))), ?rd⟩)
  case len => obtain ⟨A, B, x, y, rfl, _⟩ := h; rfl
  case rd =>
    obtain ⟨A, B, x, y, rfl, hA, hB, h1000, hal, k⟩ := h
    generalize hn : min x.keys.length y.keys.length = n
    have mn : (if ((y.keys.length : Nat) : Int) < ((x.keys.length : Nat) : Int) then ((y.keys.length : Nat) : Int) else ((x.keys.length : Nat) : Int)) = ((n : Nat) : Int) := by
      split <;> omega
    have arg : Is (tCB (fun xs H Q => ∃ i j, xs = [.int i, .int j] ∧ Q (.int (if j < i then j else i)) H) (tCons (tCall (spCountTicks K a) [] C8.E0 (tCons (tVar 0) tNil)) (tCons (tCall (spCountTicks K a) [] C8.E0 (tCons (tVar 1) tNil)) tNil))) (start nm_find_parting [.ref A.g, .ref B.g]) H (.int (n : Int)) := by
      refine is_cb (isA_cons (is_count T hA (is_var rfl)) (isA_cons (is_count T hB (is_var rfl)) isA_nil)) fun Q' q => ⟨_, _, rfl, ?_⟩
      rw [mn]
      exact q
    refine s_seq (s_range1 (n := n + 1) (isA_cons (is_to (is_op0 arg is_c) (by omega)) isA_nil) (by omega) ?_)
    refine ⟨fun i σ H' => H' = H ∧ (∃ u : Option V, σ = [some (.ref A.g), some (.ref B.g), u]) ∧ ∀ j, j < i → Ge13.playTo x j = Ge13.playTo y j, ?_, ?_, ?_⟩
    · exact ⟨rfl, ⟨none, rfl⟩, fun j hj => by cases hj⟩
    · rintro i σ H' hi ⟨rfl, ⟨u, rfl⟩, hj⟩
      have hi1 : i ≤ x.keys.length := by omega
      have hi2 : i ≤ y.keys.length := by omega
      obtain ⟨s, hs, hst⟩ := hA.get hi1
      obtain ⟨s', hs', hst'⟩ := hB.get hi2
      refine s_if (isT_not (isT_v (is_call (v := .bl (alike (Ge13.playTo x i) (Ge13.playTo y i))) (isA_cons (is_behind T hA (is_var rfl) (is_var rfl) hs) (isA_cons (is_behind T hB (is_var rfl) (is_var rfl) hs') isA_nil)) fun Q' E' q => ⟨s, s', _, _, rfl, hst, hst', q⟩))) (fun hb => ?_) (fun hb => ?_)
      · have ne : Ge13.playTo x i ≠ Ge13.playTo y i := fun z => by
          rw [(hal i hi1 hi2).mpr z] at hb
          cases hb
        rw [other_some hi1 hi2 hj ne] at k
        exact s_ret (is_var rfl) k
      · have eq : Ge13.playTo x i = Ge13.playTo y i := (hal i hi1 hi2).mp (by simpa using hb)
        refine s_next ⟨rfl, ⟨_, rfl⟩, fun j hlt => ?_⟩
        by_cases e : j = i
        · rw [e]
          exact eq
        · exact hj j (by omega)
    · rintro σ H' ⟨rfl, ⟨u, rfl⟩, hj⟩
      rw [other_none fun i h1 h2 => hj i (by omega)] at k
      dsimp only
      exact s_ret (v := .non) is_c k
theorem c_count_things : C8.Cal P w K mg base 4 "count_things" (spThings K a) [] := by
  obtain ⟨f, fd, F, b⟩ := T.d_count_things
  refine C8.cal0 F b .nil sc_count_things (fun vs H Q E h => ?len) (fun cdv A0 outer s H vs Q E hr h => ⟨_, (pss_cons (ps_set (i := 1) sc_count_things.nd rfl (Or.inl rfl) (pe_op op_rep (pe_lst (pa_cons pe_int pa_nil)) (U.pe_c0 (c_count_kinds T) hr (by decide) (by rfl)))) (pss_cons (ps_for PassesOwn.never rfl (pi_range1 (by rfl) T.n_range (pa_cons (pe_fld (pv 0) rfl) pa_nil)) (pg_name (i := 2) sc_count_things.nd rfl (Or.inl rfl)) (pss_one (ps_for PassesOwn.never rfl (pi_list (C8.pe_c (c_row_of T) hr (by decide) (by rfl) (pa_cons (pv 0) (pa_cons (pv 2) pa_nil)))) (pg_name (i := 3) sc_count_things.nd rfl (Or.inl rfl)) (pss_one (ps_augS (pv 1) (pv 3) U.get_list pe_int ip_add set_list))))) (pss_one (ps_ret (pv 1))))), ?rd⟩)
  case len => obtain ⟨cv, pl, c, rfl, _⟩ := h; rfl
  case rd =>
    obtain ⟨cv, pl, c, rfl, h, hwf, k⟩ := h
    refine s_seq (s_setRep (n := 13) (isA_cons is_c isA_nil) (by show 1 ≤ 1; decide) (fun H' s' => is_call isA_nil fun Q' E' q => ⟨rfl, q⟩) ⟨by decide, by decide⟩ fun l H0 hl sm0 hl0 => ?_)
    have e0 : (List.replicate (13 : Int).toNat [V.int 0]).flatten = (cntTo (cellsTo c 0)).map iv := by
      have : cellsTo c 0 = [] := rfl
      rw [this, cntTo_nil]
      rfl
    rw [e0] at hl0
    have h0 := h.same sm0
    refine s_seq (s_range1 (n := c.h) (isA_cons (is_fld (is_var rfl) h0.ob T.k_Cave (by decide) l_high) isA_nil) (by have := hwf.h14; omega) ?_)
    refine ⟨fun y σ H' => (∃ u2 u3 : Option V, σ = [some (.ref cv), some (.ref l), u2, u3]) ∧ Same H H' ∧ H' l = some (.lst ((cntTo (cellsTo c y)).map iv)), ?_, ?_, ?_⟩
    · exact ⟨⟨none, none, rfl⟩, sm0, hl0⟩
    · rintro y σ H1 hy ⟨⟨u2, u3, rfl⟩, sm1, hl1⟩
      have h1 := h.same sm1
      have hh := hwf.h14
      refine s_forNew (vs := [.ref cv, iv y]) (ys := (rowOf c y).map iv) (isA_cons (is_var rfl) (isA_cons (is_var rfl) isA_nil)) (fun R q => ⟨cv, pl, c, y, rfl, h1, hy, by omega, q⟩) fun q hq => ?_
      have nq : l ≠ q := ne_of_none hl1 hq
      have smq : Same H1 (upd H1 q (.lst ((rowOf c y).map iv))) := same_new hq
      refine ⟨fun i σ H' => (∃ u3 : Option V, σ = [some (.ref cv), some (.ref l), some (iv y), u3]) ∧ Same H H' ∧ H' q = some (.lst ((rowOf c y).map iv)) ∧ H' l = some (.lst ((cntTo (cellsTo c y ++ (rowOf c y).take i)).map iv)), ?_, ?_, ?_, ?_⟩
      · exact ⟨⟨_, rfl⟩, sm1.trans smq, upd_same, by rw [upd_ne nq, List.take_zero, List.append_nil]; exact hl1⟩
      · rintro i σ H' _ ⟨_, _, h3, _⟩
        exact SqL.of h3
      · rintro i v σ H2 hi ⟨⟨u3', rfl⟩, sm2, hq2, hl2⟩
        obtain ⟨t, ht, rfl⟩ := map_get hi
        have ht13 : t < 13 := by
          have hm := List.mem_of_getElem? ht
          obtain ⟨i', _, rfl⟩ := List.mem_map.mp hm
          exact Nat.lt_succ_of_le (hwf.at i' y)
        have eg := cntTo_get (cellsTo c y ++ (rowOf c y).take i) ht13
        refine s_augL (i := t) (m := (((cellsTo c y ++ (rowOf c y).take i).filter fun u => u == t).length : Nat)) (n := 1) (is_var rfl) (is_var rfl) hl2 (by rw [List.getElem?_map, eg]; rfl) is_c ?_
        refine ⟨⟨_, rfl⟩, fun b o hb => ?_, ?_, ?_⟩
        · rw [upd_ne (ne_of_none hb hl)]
          exact sm2 _ _ hb
        · rw [upd_ne nq.symm]
          exact hq2
        · rw [upd_same, take_snoc ht, ← List.append_assoc, ← cntTo_snoc _ ht13, List.map_set]
          rfl
      · rintro σ H2 ⟨⟨u3', rfl⟩, sm2, hq2, hl2⟩
        rw [List.length_map, List.take_of_length_le (by rw [rowOf_len]; exact Nat.le_of_eq (rowOf_len c y ▸ rfl)), ← cellsTo_succ] at hl2
        exact ⟨⟨_, _, rfl⟩, sm2, hl2⟩
    · rintro σ H1 ⟨⟨u2, u3, rfl⟩, sm1, hl1⟩
      rw [cellsTo_all hwf.len] at hl1
      exact s_ret (is_var rfl) (k H1 l sm1 hl hl1)
theorem c_write_cave : C8.Cal P w K mg base 4 "write_cave" (spWrite K a) [] := by
  obtain ⟨f, fd, F, b⟩ := T.d_write_cave
  refine C8.cal0 F b .nil sc_write_cave (fun vs H Q E h => ?len) (fun cdv A0 outer s H vs Q E hr h => ⟨_, (pss_cons (ps_set (i := 1) sc_write_cave.nd rfl (Or.inl rfl) (pe_lst pa_nil)) (pss_cons (ps_for PassesOwn.never rfl (pi_range1 (by rfl) T.n_range (pa_cons (pe_fld (pv 0) rfl) pa_nil)) (pg_name (i := 2) sc_write_cave.nd rfl (Or.inl rfl)) (pss_cons (ps_expr (pe_bm PySem.F.plainAttrs_list PySem.F.slot_list_extend PySem.F.type_list_extend mt_extend (pv 1) (pa_cons (pe_lc (own := [("thing", 3)]) (g := gName 3) (tt := tYes) rfl sc_write_cave.nd (pi_list (C8.pe_c (c_row_of T) hr (by decide) (by rfl) (pa_cons (pv 0) (pa_cons (pv 2) pa_nil)))) (blkOk_by (own := [("thing", 3)]) (N := nm_write_cave) (sc := C8.fnScope s_write_cave) (by decide +kernel)) (fun _ _ _ _ _ => (pg_name (i := 3) sc_write_cave.nd rfl (Or.inl rfl))) (fun _ _ _ _ _ => pts_nil) (fun _ _ _ _ _ => (C8.pe_c (c_byte_of T) hr (by decide) (by rfl) (pa_cons (pv 3) pa_nil)))) pa_nil))) (pss_one (ps_expr (pe_bm PySem.F.plainAttrs_list PySem.F.slot_list_append PySem.F.type_list_append mt_append (pv 1) (pa_cons (C8.pe_gc (by rfl) T.g_ROW_END) pa_nil)))))) (pss_one (ps_ret (pv 1))))), ?rd⟩)
  case len => obtain ⟨cv, pl, c, rfl, _⟩ := h; rfl
  case rd =>
    obtain ⟨cv, pl, c, rfl, h, hwf, k⟩ := h
    refine s_seq (s_setLst isA_nil (Nat.zero_le _) fun l hl => ?_)
    have sm0 : Same H (upd H l (.lst [])) := same_new hl
    have h0 := h.same sm0
    have hl0 : upd H l (.lst []) l = some (.lst []) := upd_same
    generalize upd H l (.lst []) = H0 at sm0 h0 hl0
    refine s_seq (s_range1 (n := c.h) (isA_cons (is_fld (is_var rfl) h0.ob T.k_Cave (by decide) l_high) isA_nil) (by have := hwf.h14; omega) ?_)
    refine ⟨fun y σ H' => (∃ u2 : Option V, σ = [some (.ref cv), some (.ref l), u2, none]) ∧ Same H H' ∧ H' l = some (.lst ((wrTo c y).map iv)), ?_, ?_, ?_⟩
    · exact ⟨⟨none, rfl⟩, sm0, hl0⟩
    · rintro y σ H1 hy ⟨⟨u2, rfl⟩, sm1, hl1⟩
      have h1 := h.same sm1
      have hh := hwf.h14
      have hw1 : (wrTo c y).length ≤ 294 := by
        rw [wrTo_len]
        exact Nat.le_trans (Nat.mul_le_mul (by omega : y ≤ 14) (by have := hwf.w20; omega : c.w + 1 ≤ 21)) (by decide)
      have hw2 : ((rowOf c y).map iv).length ≤ 20 := by
        rw [List.length_map, rowOf_len]
        exact hwf.w20
      refine s_seq (s_extNew (g := fun v => iv (sgn (ivN v))) (vs := [.ref cv, iv y]) (ys := (rowOf c y).map iv) (is_var rfl) hl1 (isA_cons (is_var rfl) (isA_cons (is_var rfl) isA_nil)) (fun R q => ⟨cv, pl, c, y, rfl, h1, hy, by omega, q⟩) ?_ ?_ ?_ ?_)
      · exact Nat.le_trans hw2 (by decide)
      · intro x hx H' sm
        obtain ⟨n, hn, rfl⟩ := List.mem_map.mp hx
        have hn12 : n ≤ 12 := by
          obtain ⟨i, _, rfl⟩ := List.mem_map.mp hn
          exact hwf.at i y
        rw [ivN_iv]
        exact is_call (isA_cons (is_var rfl) isA_nil) fun Q' E' q => ⟨n, rfl, by omega, q⟩
      · rw [List.length_map]
        exact Nat.le_trans (Nat.add_le_add hw1 hw2) (by decide)
      · intro H2 f2 hl2
        rw [sgn_map] at hl2
        refine s_append (is_var rfl) (isA_cons is_c isA_nil) hl2 ?_ ?_
        · rw [List.length_append, List.length_map, List.length_map, List.length_map]
          rw [List.length_map] at hw2
          exact Nat.lt_of_le_of_lt (Nat.add_le_add hw1 hw2) (by decide)
        · refine ⟨⟨_, rfl⟩, fun b o hb => ?_, ?_⟩
          · have nb : b ≠ l := ne_of_none hb hl
            rw [upd_ne nb]
            exact f2 _ _ (sm1 _ _ hb) nb
          · rw [upd_same, wrTo_succ, List.map_append, List.map_append, List.append_assoc]
            rfl
    · rintro σ H1 ⟨⟨u2, rfl⟩, sm1, hl1⟩
      rw [wrTo_all] at hl1
      exact s_ret (is_var rfl) (k H1 l sm1 hl hl1)
theorem c_counted_text : C8.Cal P w K mg base 5 "counted_text" (spCounted K a) [] := by
  obtain ⟨f, fd, F, b⟩ := T.d_counted_text
  refine C8.cal0 F b .nil sc_counted_text (fun vs H Q E h => ?len) (fun cdv A0 outer s H vs Q E hr h => ⟨_, (pss_cons (ps_set (i := 1) sc_counted_text.nd rfl (Or.inl rfl) (C8.pe_c (c_write_cave T) hr (by decide) (by rfl) (pa_cons (pv 0) pa_nil))) (pss_one (ps_ret (pe_op op_cat (pe_lst (pa_cons (pe_callB call_len_seq (by rfl) T.n_len (by decide +kernel) (pa_cons (pv 1) pa_nil)) pa_nil)) (pv 1))))), ?rd⟩)
  case len => obtain ⟨cv, pl, c, rfl, _⟩ := h; rfl
  case rd =>
    obtain ⟨cv, pl, c, rfl, h, hwf, k⟩ := h
    refine s_seq (s_setCall (isA_cons (is_var rfl) isA_nil) ⟨cv, pl, c, rfl, h, hwf, fun H1 t sm ht ht1 => ?_⟩)
    have hw := write_small hwf
    have lenW : Is (tCB (U.rLen K) (tCons (tVar 1) tNil)) [some (.ref cv), some (.ref t)] H1 (iv (Ge13.write c).length) := by
      refine is_to (is_len (is_var rfl) (SqL.of ht1)) ?_
      rw [List.length_map]
    refine s_retCatL (isA_cons lenW isA_nil) (fun H' => is_var rfl) ht1 ?_ fun r H2 hr sm2 hr2 => ?_
    · rw [List.length_map]
      show 1 + _ ≤ _
      omega
    · exact k H2 r (sm.trans sm2) (sm.free hr) hr2
end
end G

set_option Elab.async false
set_option linter.all false
set_option maxRecDepth 100000
set_option maxHeartbeats 4000000
namespace G
open PySem PySem.Spec PyProof.Rows L2
open Ge13 (at_ put gems beside cellTo Marks goTo playerTurn stoneTurn monsterTurn)
open Gm
open U

/-! ### the session -/
def sesF (g d : Addr) : List (Str × V) := [("game", .ref g), ("kept", .ref d)]
theorem l_game {g d} : (sesF g d).lookup ("game" : Str) = some (.ref g) := by rfl
theorem l_kept {g d} : (sesF g d).lookup ("kept" : Str) = some (.ref d) := by rfl
theorem p_game {g d n} : putF "game" (.ref n) (sesF g d) = sesF n d := by rfl
theorem ses_gam {C C' dx dx' : Addr} {g d so l lo tp held} : HO.ins C dx (sesF g d) ≠ HO.ins C' dx' (gamF so l lo tp held) := lk_ne "held" rfl l_held
theorem ses_std {C C' dx dx' : Addr} {g d c o p} : HO.ins C dx (sesF g d) ≠ HO.ins C' dx' (stdF c o p) := lk_ne "cave" rfl l_cave
theorem ses_cav {C C' dx dx' : Addr} {g d w h q} : HO.ins C dx (sesF g d) ≠ HO.ins C' dx' (cavF w h q) := lk_ne "wide" rfl l_wide
/-- a game's changing parts are none of another's -/
def Dj (A B : GA) : Prop := ∀ b, (b = A.g ∨ b = A.so ∨ b = A.l) → ¬ Part B b
/-- what is outside is no part of a game -/
def Ap (R : Addr → Prop) (A : GA) : Prop := ∀ b, R b → ¬ Part A b
theorem GameAt.frame {K : PySem.W.Frag} {a : Ad} {H H' : Hp} {A A' B : GA} {x : Ge13.Game} (hB : GameAt K a H B x) (w : Went H A H' A') (d : Dj A B) : GameAt K a H' B x := hB.mono fun b o e p => w.keep b o e fun z => d b z p
/-- what kinds of things a game's parts are -/
theorem GameAt.kind {K : PySem.W.Frag} {a : Ad} {H : Hp} {B : GA} {y : Ge13.Game} (h : GameAt K a H B y) {b : Addr} (p : Part B b) :
    (∃ C dx so l lo tp held, H b = some (.ins C dx (gamF so l lo tp held))) ∨ (∃ xs, H b = some (.lst xs)) ∨ (∃ C dx c o q, H b = some (.ins C dx (stdF c o q))) ∨ (∃ C dx w hh q, H b = some (.ins C dx (cavF w hh q))) := by
  rcases p with (rfl | rfl | rfl) | ⟨s, hs, p⟩
  · obtain ⟨dx, e⟩ := h.g
    exact .inl ⟨_, dx, _, _, _, _, _, e⟩
  · exact .inr (.inl ⟨_, h.so⟩)
  · exact .inr (.inl ⟨_, h.l⟩)
  · obtain ⟨i, hi⟩ := List.mem_iff_getElem?.mp hs
    have q := h.st i s hi
    rcases p with rfl | rfl | rfl
    · obtain ⟨dx, e⟩ := q.ob
      exact .inr (.inr (.inl ⟨_, dx, _, _, _, e⟩))
    · obtain ⟨dx, e⟩ := q.cv.ob
      exact .inr (.inr (.inr ⟨_, dx, _, _, _, e⟩))
    · exact .inr (.inl ⟨_, q.cv.ls⟩)
theorem GameAt.nses {K : PySem.W.Frag} {a : Ad} {H : Hp} {B : GA} {y : Ge13.Game} (h : GameAt K a H B y) {s C dx g d : Addr} (e : H s = some (.ins C dx (sesF g d))) : ¬ Part B s := fun p => by
  rcases h.kind p with ⟨_, _, _, _, _, _, _, q⟩ | ⟨_, q⟩ | ⟨_, _, _, _, _, q⟩ | ⟨_, _, _, _, _, q⟩
  · rw [e] at q
    exact ses_gam (Option.some.inj q)
  · rw [e] at q
    cases q
  · rw [e] at q
    exact ses_std (Option.some.inj q)
  · rw [e] at q
    exact ses_cav (Option.some.inj q)
theorem GameAt.ndict {K : PySem.W.Frag} {a : Ad} {H : Hp} {B : GA} {y : Ge13.Game} (h : GameAt K a H B y) {d : Addr} {kvs : List (Key × V)} (e : H d = some (.dK kvs)) : ¬ Part B d := fun p => by
  rcases h.kind p with ⟨_, _, _, _, _, _, _, q⟩ | ⟨_, q⟩ | ⟨_, _, _, _, _, q⟩ | ⟨_, _, _, _, _, q⟩ <;> (rw [e] at q; cases q)
theorem Went.part {H H' : Hp} {A A' : GA} (w : Went H A H' A') {b : Addr} (p : Part A' b) : Part A b ∨ H b = none := by
  rcases p with (z | z | z) | p
  · exact .inl (.inl (.inl (z.trans w.g)))
  · rcases w.so with y | y
    · exact .inl (.inl (.inr (.inl (z.trans y))))
    · exact .inr (by rw [z]; exact y)
  · rcases w.l with y | y
    · exact .inl (.inl (.inr (.inr (z.trans y))))
    · exact .inr (by rw [z]; exact y)
  · rcases w.fz b p with q | q
    · exact .inl (.inr q)
    · exact .inr q
theorem Went.own {H H' : Hp} {A A' : GA} (w : Went H A H' A') {b : Addr} (p : b = A'.g ∨ b = A'.so ∨ b = A'.l) : (b = A.g ∨ b = A.so ∨ b = A.l) ∨ H b = none := by
  rcases p with z | z | z
  · exact .inl (.inl (z.trans w.g))
  · rcases w.so with y | y
    · exact .inl (.inr (.inl (z.trans y)))
    · exact .inr (by rw [z]; exact y)
  · rcases w.l with y | y
    · exact .inl (.inr (.inr (z.trans y)))
    · exact .inr (by rw [z]; exact y)
theorem dead {H : Hp} {b : Addr} {F : Prop} (h : H b = none) (l : ∃ o, H b = some o) : F := by
  obtain ⟨o, e⟩ := l
  rw [h] at e
  cases e
/-- the kept games -/
def Kept (K : PySem.W.Frag) (a : Ad) (H : Hp) (A : GA) (R : Addr → Prop) (g : Ge13.House) (kvs : List (Key × V)) : Prop := ∀ n : Nat,
  match Ge13.slot g n with
  | none => valV kvs (.inl (n : Int)) = none
  | some x => ∃ B : GA, valV kvs (.inl (n : Int)) = some (.ref B.g) ∧ GameAt K a H B x ∧ Dj A B ∧ Ap R B
structure SesAt (K : PySem.W.Frag) (a : Ad) (H : Hp) (s d : Addr) (A : GA) (g : Ge13.House) (N : Nat) (R : Addr → Prop) : Prop where
  ob : Ob K H s a.cSession (sesF A.g d)
  gm : GameAt K a H A g.game
  kp : ∃ kvs, H d = some (.dK kvs) ∧ kvs.length ≤ N ∧ Kept K a H A R g kvs
  ap : Ap R A
  rs : ∀ b, R b → b ≠ s ∧ b ≠ d ∧ ∃ o, H b = some o
/-- what is outside stands -/
def Out (R : Addr → Prop) (H H' : Hp) : Prop := ∀ b o, R b → H b = some o → H' b = some o
section
variable {K : PySem.W.Frag} {a : Ad} {H H' : Hp} {s d : Addr} {A B : GA} {g : Ge13.House} {N : Nat} {R : Addr → Prop} {x : Ge13.Game}
theorem SesAt.same (h : SesAt K a H s d A g N R) (sm : Same H H') : SesAt K a H' s d A g N R where
  ob := ob_same h.ob sm
  gm := h.gm.same sm
  kp := by
    obtain ⟨kvs, e, hl, hk⟩ := h.kp
    refine ⟨kvs, sm _ _ e, hl, fun n => ?_⟩
    have q := hk n
    cases e2 : Ge13.slot g n with
    | none =>
      rw [e2] at q
      exact q
    | some x =>
      rw [e2] at q
      obtain ⟨B, q1, q2, q3, q4⟩ := q
      exact ⟨B, q1, q2.same sm, q3, q4⟩
  ap := h.ap
  rs := fun b hb => by
    obtain ⟨h1, h2, o, e⟩ := h.rs b hb
    exact ⟨h1, h2, o, sm _ _ e⟩
theorem Out.same (sm : Same H H') : Out R H H' := fun b o _ h => sm b o h
theorem Out.trans {H1 : Hp} (p : Out R H H1) (q : Out R H1 H') : Out R H H' := fun b o r h => q b o r (p b o r h)
theorem SesAt.more (h : SesAt K a H s d A g N R) : SesAt K a H s d A g (N + 1) R := by
  obtain ⟨kvs, e, hl, hk⟩ := h.kp
  exact ⟨h.ob, h.gm, ⟨kvs, e, by omega, hk⟩, h.ap, h.rs⟩
/-- the current game goes on -/
theorem SesAt.game {A' : GA} (h : SesAt K a H s d A g N R) (hg : GameAt K a H' A' x) (f : Went H A H' A') : SesAt K a H' s d A' { g with game := x } N R ∧ Out R H H' := by
  obtain ⟨s0, es⟩ := h.ob
  obtain ⟨kvs, e, hl, hk⟩ := h.kp
  have out : Out R H H' := fun b o r hb => f.keep b o hb fun z => h.ap b r (.inl z)
  have es' : H' s = some (.ins a.cSession s0 (sesF A.g d)) := f.keep _ _ es fun z => h.gm.nses es (.inl z)
  have ed' : H' d = some (.dK kvs) := f.keep _ _ e fun z => h.gm.ndict e (.inl z)
  refine ⟨⟨⟨s0, by rw [f.g]; exact es'⟩, hg, ⟨kvs, ed', hl, fun n => ?_⟩, fun b r p => ?_, fun b r => ?_⟩, out⟩
  · have q := hk n
    have e2 : Ge13.slot { g with game := x } n = Ge13.slot g n := rfl
    rw [e2]
    cases e3 : Ge13.slot g n with
    | none =>
      rw [e3] at q
      exact q
    | some y =>
      rw [e3] at q
      obtain ⟨B, q1, q2, q3, q4⟩ := q
      refine ⟨B, q1, q2.frame f q3, fun b z p => ?_, q4⟩
      rcases f.own z with y | y
      · exact q3 b y p
      · exact dead y (q2.live p)
  · rcases f.part p with y | y
    · exact h.ap b r y
    · exact dead y (h.rs b r).2.2
  · obtain ⟨h1, h2, o, e⟩ := h.rs b r
    exact ⟨h1, h2, o, out b o r e⟩
/-- fresh addresses -/
structure New (H : Hp) (A : GA) : Prop where
  g : H A.g = none
  so : H A.so = none
  l : H A.l = none
theorem New.own (h : New H A) {b : Addr} (z : b = A.g ∨ b = A.so ∨ b = A.l) : H b = none := by
  rcases z with rfl | rfl | rfl
  · exact h.g
  · exact h.so
  · exact h.l
theorem New.dj {y : Ge13.Game} (h : New H A) (hB : GameAt K a H B y) : Dj A B := fun b z p => dead (h.own z) (hB.live p)
theorem New.ap (h : New H A) (hr : ∀ b, R b → ∃ o, H b = some o) (ha : ∀ b, R b → ¬ Froz A.ss b) : Ap R A := fun b r p => by
  rcases p with z | p
  · exact dead (h.own z) (hr b r)
  · exact ha b r p
/-- another game becomes the current one -/
theorem SesAt.newGame {H1 : Hp} {A' : GA} (h : SesAt K a H s d A g N R) (sm : Same H H1) (hg : GameAt K a H1 A' x) (nw : New H A') (ha : ∀ b, R b → ¬ Froz A'.ss b) (dx : Addr) :
    SesAt K a (upd H1 s (.ins a.cSession dx (sesF A'.g d))) s d A' { g with game := x } N R ∧ Out R H (upd H1 s (.ins a.cSession dx (sesF A'.g d))) := by
  obtain ⟨s0, es⟩ := h.ob
  have es1 := sm _ _ es
  have up : ∀ {B : GA} {y : Ge13.Game}, GameAt K a H1 B y → GameAt K a (upd H1 s (.ins a.cSession dx (sesF A'.g d))) B y := fun {B y} hB => hB.mono fun b o e p => by
    rw [upd_ne fun z => hB.nses es1 (by rw [← z]; exact p)]
    exact e
  have out : Out R H (upd H1 s (.ins a.cSession dx (sesF A'.g d))) := fun b o r hb => by
    rw [upd_ne (h.rs b r).1]
    exact sm _ _ hb
  obtain ⟨kvs, e, hl, hk⟩ := h.kp
  refine ⟨⟨⟨dx, upd_same⟩, up hg, ⟨kvs, by rw [upd_ne (ne_of (sm _ _ e) es1 fun z => by cases z)]; exact sm _ _ e, hl, fun n => ?_⟩, nw.ap (fun b r => (h.rs b r).2.2) ha, fun b r => ?_⟩, out⟩
  · have q := hk n
    have e2 : Ge13.slot { g with game := x } n = Ge13.slot g n := rfl
    rw [e2]
    cases e3 : Ge13.slot g n with
    | none =>
      rw [e3] at q
      exact q
    | some y =>
      rw [e3] at q
      obtain ⟨B, q1, q2, q3, q4⟩ := q
      exact ⟨B, q1, up (q2.same sm), nw.dj q2, q4⟩
  · obtain ⟨h1, h2, o, e⟩ := h.rs b r
    exact ⟨h1, h2, o, out b o r e⟩
/-- the current game is kept -/
theorem SesAt.keep {H1 : Hp} {n : Nat} {kvs : List (Key × V)} (h : SesAt K a H s d A g N R) (sm : Same H H1) (hB : GameAt K a H1 B g.game) (nw : New H B) (e1 : B.ss = A.ss) (hd : H1 d = some (.dK kvs)) :
    SesAt K a (upd H1 d (.dK (putK kvs (.inl (n : Int)) (.ref B.g)))) s d A { g with slots := (g.slots.filter fun x => x.1 != n) ++ [(n, g.game)] } (N + 1) R ∧ Out R H (upd H1 d (.dK (putK kvs (.inl (n : Int)) (.ref B.g)))) := by
  obtain ⟨s0, es⟩ := h.ob
  have up : ∀ {B' : GA} {y : Ge13.Game}, GameAt K a H1 B' y → GameAt K a (upd H1 d (.dK (putK kvs (.inl (n : Int)) (.ref B.g)))) B' y := fun {B' y} hB => hB.mono fun b o e p => by
    rw [upd_ne fun z => hB.ndict hd (by rw [← z]; exact p)]
    exact e
  have out : Out R H (upd H1 d (.dK (putK kvs (.inl (n : Int)) (.ref B.g)))) := fun b o r hb => by
    rw [upd_ne (h.rs b r).2.1]
    exact sm _ _ hb
  obtain ⟨kvs', e, hl, hk⟩ := h.kp
  have ek : kvs' = kvs := by
    have := sm _ _ e
    rw [hd] at this
    injection this with this
    injection this with this
    exact this.symm
  subst ek
  refine ⟨⟨ob_up (ob_same h.ob sm) (ne_of (sm _ _ es) hd fun z => by cases z), up (h.gm.same sm), ⟨_, upd_same, ?_, fun m => ?_⟩, h.ap, fun b r => ?_⟩, out⟩
  · have := length_putK kvs' (.inl (n : Int)) (V.ref B.g)
    omega
  · rw [slot_save, valV_put]
    by_cases hm : m = n
    · subst hm
      rw [if_pos rfl, if_pos rfl]
      refine ⟨B, rfl, up hB, fun b z p => ?_, nw.ap (fun b r => (h.rs b r).2.2) fun b r p => ?_⟩
      · rcases p with y | y
        · exact dead (nw.own y) (h.gm.live (.inl z))
        · rw [e1] at y
          exact h.gm.nf b z y
      · rw [e1] at p
        exact h.ap b r (.inr p)
    · have hk' : ¬ ((Sum.inl (m : Int) : Key) = .inl (n : Int)) := fun z => by
        injection z with z
        omega
      rw [if_neg hm, if_neg hk']
      have q := hk m
      cases e3 : Ge13.slot g m with
      | none =>
        rw [e3] at q
        exact q
      | some y =>
        rw [e3] at q
        obtain ⟨B', q1, q2, q3, q4⟩ := q
        exact ⟨B', q1, up (q2.same sm), q3, q4⟩
  · obtain ⟨h1, h2, o, e⟩ := h.rs b r
    exact ⟨h1, h2, o, out b o r e⟩
end
end G

set_option Elab.async false
set_option linter.all false
set_option maxRecDepth 100000
set_option maxHeartbeats 4000000
namespace G
open PySem PySem.Spec PyProof.Rows L2
open Ge13 (at_ put gems beside cellTo Marks goTo playerTurn stoneTurn monsterTurn)
open Gm
open U

/-! ### answers -/
def zv (l : List Int) : List V := l.map V.int
theorem zv_ints (l : List Nat) : l.map iv = zv (Ge13.ints l) := by
  unfold zv Ge13.ints
  rw [List.map_map]
  rfl
def spRefuse : Sp := fun vs H Q _ => ∃ n : Int, vs = [.int n] ∧ ∀ p, H p = none → Q (.ref p) (upd H p (.lst (zv [-n])))
/-- a call of the session: what it answers, the session behind it -/
def spAns (K : PySem.W.Frag) (a : Ad) (nargs : List V → Hp → Option Ge13.Call → Prop) : Sp := fun vs H Q _ => ∃ (s d : Addr) (A : GA) (g : Ge13.House) (N : Nat) (R : Addr → Prop) (us : List V) (c : Ge13.Call),
  vs = .ref s :: us ∧ nargs us H (some c) ∧ SesAt K a H s d A g N R ∧ SInv g ∧ N < 1000 ∧ (∀ b, V.ref b ∈ us → ¬ Part A b) ∧
  ∀ (H' : Hp) (A' : GA) (p : Addr), SesAt K a H' s d A' (Ge13.step g c).1 (N + 1) R → Out R H H' → H' p = some (.lst (zv (Ge13.step g c).2)) → ¬ R p → Q (.ref p) H'
/-- given: a list of one number -/
def one (mk : Nat → Ge13.Call) : List V → Hp → Option Ge13.Call → Prop := fun us H c => ∃ (l : Addr) (n : Nat) (rest : List V), us = [.ref l] ∧ H l = some (.lst (iv n :: rest)) ∧ c = some (mk n)
/-- given: any list -/
def any0 (c0 : Ge13.Call) : List V → Hp → Option Ge13.Call → Prop := fun us _ c => ∃ l : Addr, us = [.ref l] ∧ c = some c0
section
variable {K : PySem.W.Frag} {σ : L2.St} {H : Hp} {D : Ends} {te : TE} {t t1 t2 : L2.TA} {sp : Sp} {vs ys : List V}
theorem is_first {l : Addr} {n : Nat} {rest : List V} {i : Nat} (h : σ[i]? = some (some (.ref l))) (e : H l = some (.lst (iv n :: rest))) : Is (tOp (rIxL K) (tVar i) (tC (.int 0))) σ H (iv n) := is_ixL (is_var h) is_c (SqL.of e) (atI_nat (j := 0) rfl)
/-- return f(..) + [..] -/
theorem s_retCat (h : IsA t1 σ H vs) (k : sp (vs ++ []) H (fun x H1 => ∃ l xs ys, x = .ref l ∧ H1 l = some (.lst xs) ∧ IsA t2 σ H1 ys ∧ xs.length + ys.length ≤ 1000 ∧ ∀ p H2, H1 p = none → Same H1 H2 → H2 p = some (.lst (xs ++ ys)) → D.rt (.ref p) H2) C8.E0)
    (mono : ∀ Q Q' : VK, (∀ v H', Q v H' → Q' v H') → sp (vs ++ []) H Q C8.E0 → sp (vs ++ []) H Q' C8.E0) : tRet (tOp rCat (tCall sp [] C8.E0 t1) (tLst t2)) D σ H :=
  h _ (mono _ _ (fun x H1 ⟨l, xs, ys, e, hl, ha, hn, q⟩ => ha _ ⟨Nat.le_trans (Nat.le_add_left _ _) (Nat.le_trans hn (by decide)), fun p hp =>
    ⟨l, p, xs, ys, e, rfl, by rw [upd_ne (ne_of_none hl hp)]; exact hl, upd_same, Nat.le_trans hn (by decide), fun r hr => by
      obtain ⟨n1, hr0⟩ := upd_none hr
      exact q r _ hr0 ((same_new hp).trans (same_new hr)) upd_same⟩⟩) k)
theorem isT_op {ta tb : TE} {p : Int → Int → Bool} {i j : Int} (ha : Is ta σ H (.int i)) (hb : Is tb σ H (.int j)) : IsT (tTest (tOp (rI0 fun i j => .bl (p i j)) ta tb)) σ H (p i j) := isT_t (is_op0 (g := fun i j => .bl (p i j)) ha hb)
end
theorem not_out {R : Addr → Prop} {H : Hp} {p : Addr} (h : H p = none) (hr : ∀ b, R b → ∃ o, H b = some o) : ¬ R p := fun r => by
  obtain ⟨o, e⟩ := hr p r
  rw [h] at e
  cases e
theorem SesAt.refs {K : PySem.W.Frag} {a : Ad} {H : Hp} {s d : Addr} {A : GA} {g : Ge13.House} {N : Nat} {R : Addr → Prop} (h : SesAt K a H s d A g N R) : ∀ b, R b → ∃ o, H b = some o := fun b r => (h.rs b r).2.2
def spTooMany (K : PySem.W.Frag) (a : Ad) : Sp := fun vs H Q _ => ∃ (A : GA) (x : Ge13.Game) (n : Nat), vs = [.ref A.g, iv n] ∧ GameAt K a H A x ∧ Q (.bl (decide (x.now.over = 0) && decide (400 < x.keys.length + n))) H
def spCaveNow (K : PySem.W.Frag) (a : Ad) : Sp := fun vs H Q _ => ∃ (s d : Addr) (A : GA) (g : Ge13.House) (N : Nat) (R : Addr → Prop) (t : SA), vs = [.ref s] ∧ SesAt K a H s d A g N R ∧ A.ss[g.game.keys.length]? = some t ∧ Q (.ref t.cv) H
theorem SesAt.now {K : PySem.W.Frag} {a : Ad} {H : Hp} {s d : Addr} {A : GA} {g : Ge13.House} {N : Nat} {R : Addr → Prop} (h : SesAt K a H s d A g N R) : ∃ t, A.ss[g.game.keys.length]? = some t ∧ StAt K a H t g.game.now := by
  obtain ⟨t, ht, hst⟩ := h.gm.get (Nat.le_refl _)
  rw [← h.gm.nw] at hst
  exact ⟨t, ht, hst⟩
section
variable {P : Program} {w : World} {K : PySem.W.Frag} {mg : Str → Option Value} {base : Heap} {a : Ad} (T : Txt K mg a)
include T

theorem is_game {σ : L2.St} {H : Hp} {s d : Addr} {A : GA} {g : Ge13.House} {N : Nat} {R : Addr → Prop} {te : TE} (h : SesAt K a H s d A g N R) (i : Is te σ H (.ref s)) : Is (tFld K te "game") σ H (.ref A.g) := is_fld i h.ob T.k_Session (by decide) l_game
theorem is_kept {σ : L2.St} {H : Hp} {s d : Addr} {A : GA} {g : Ge13.House} {N : Nat} {R : Addr → Prop} {te : TE} (h : SesAt K a H s d A g N R) (i : Is te σ H (.ref s)) : Is (tFld K te "kept") σ H (.ref d) := is_fld i h.ob T.k_Session (by decide) l_kept
theorem c_cave_now : C8.Cal P w K mg base 3 "cave_now" (spCaveNow K a) [] := by
  obtain ⟨f, fd, F, b⟩ := T.d_cave_now
  refine C8.cal0 F b .nil sc_cave_now (fun vs H Q E h => ?len) (fun cdv A0 outer s H vs Q E hr h => ⟨_, (pss_one (ps_ret (pe_fld (C8.pe_c (c_standing_now T) hr (by decide) (by rfl) (pa_cons (pe_fld (pv 0) rfl) pa_nil)) rfl))), ?rd⟩)
  case len => obtain ⟨s, d, A, g, N, R, t, rfl, _⟩ := h; rfl
  case rd =>
    obtain ⟨s, d, A, g, N, R, t, rfl, h, ht, k⟩ := h
    have hst := h.gm.st _ _ ht
    exact s_ret (is_fld (is_now T h.gm (is_game T h (is_var rfl)) ht) hst.ob T.k_Standing (by decide) l_cave) k
theorem is_caveNow {σ : L2.St} {H : Hp} {s d : Addr} {A : GA} {g : Ge13.House} {N : Nat} {R : Addr → Prop} {te : TE} {t : SA} (h : SesAt K a H s d A g N R) (i : Is te σ H (.ref s)) (ht : A.ss[g.game.keys.length]? = some t) : Is (tCall (spCaveNow K a) [] C8.E0 (tCons te tNil)) σ H (.ref t.cv) :=
  is_call (isA_cons i isA_nil) fun Q' E' q => ⟨s, d, A, g, N, R, t, rfl, h, ht, q⟩
theorem c_refuse : C8.Cal P w K mg base 1 "refuse" (spRefuse) [] := by
  obtain ⟨f, fd, F, b⟩ := T.d_refuse
  refine C8.cal0 F b .nil sc_refuse (fun vs H Q E h => ?len) (fun cdv A0 outer s H vs Q E hr h => ⟨_, (pss_one (ps_ret (pe_lst (pa_cons (pe_un un_neg (pv 0)) pa_nil)))), ?rd⟩)
  case len => obtain ⟨n, rfl, _⟩ := h; rfl
  case rd =>
    obtain ⟨n, rfl, k⟩ := h
    exact s_retLst (vs := [.int (-n)]) (isA_cons (is_un (is_var rfl)) isA_nil) (by show 1 ≤ sizeLine; decide) k
/-- a refusal -/
theorem refused {σ : L2.St} {H : Hp} {D : Ends} {s d : Addr} {A : GA} {g : Ge13.House} {N : Nat} {R : Addr → Prop} {c : Ge13.Call} {n : Int} {te : TE} (h : SesAt K a H s d A g N R) (i : Is te σ H (.int n)) (e : Ge13.step g c = (g, [-n]))
    (k : ∀ (H' : Hp) (A' : GA) (p : Addr), SesAt K a H' s d A' (Ge13.step g c).1 (N + 1) R → Out R H H' → H' p = some (.lst (zv (Ge13.step g c).2)) → ¬ R p → D.rt (.ref p) H') : tRet (tCall spRefuse [] C8.E0 (tCons te tNil)) D σ H := by
  refine s_retCall (isA_cons i isA_nil) ⟨n, rfl, fun p hp => ?_⟩
  refine k _ A p ?_ (Out.same (same_new hp)) ?_ (not_out hp h.refs)
  · rw [e]
    exact (h.same (same_new hp)).more
  · rw [e, upd_same]
theorem c_answer_hold : C8.Cal P w K mg base 2 "answer_hold" (spAns K a (one .hold)) [] := by
  obtain ⟨f, fd, F, b⟩ := T.d_answer_hold
  refine C8.cal0 F b .nil sc_answer_hold (fun vs H Q E h => ?len) (fun cdv A0 outer s H vs Q E hr h => ⟨_, (pss_cons (ps_set (i := 2) sc_answer_hold.nd rfl (Or.inl rfl) (pe_ix ix_list (pv 1) pe_int (fun _ _ => rfl))) (pss_cons (ps_if (pt_cmpR op_gt (pv 2) (C8.pe_gc (by rfl) T.g_MOST_KEY) (nomark _)) (pss_one (ps_ret (C8.pe_c (c_refuse T) hr (by decide) (by rfl) (pa_cons (C8.pe_gc (by rfl) T.g_BEYOND_BOUNDS) pa_nil)))) pss_nil) (pss_cons (ps_set (i := 3) sc_answer_hold.nd rfl (Or.inl rfl) (pe_fld (pv 0) rfl)) (pss_cons (ps_fld (pv 3) (pv 2) rfl) (pss_one (ps_ret (pe_lst (pa_cons pe_int pa_nil)))))))), ?rd⟩)
  case len =>
    obtain ⟨s, d, A, g, N, R, us, c, rfl, ⟨l, n, rest, rfl, _⟩, _⟩ := h
    rfl
  case rd =>
    obtain ⟨s, d, A, g, N, R, us, c, rfl, ⟨l, n, rest, rfl, hl, ec⟩, h, hv, hN, hap, k⟩ := h
    cases ec
    refine s_seq (s_set (is_first rfl hl) ?_)
    refine s_guard (isT_op (is_var rfl) is_c) (fun hb => ?_) (fun hb => ?_)
    · have c1 : 4 < n := by have := of_decide_eq_true hb; omega
      refine refused T h is_c ?_ k
      show (if 4 < n then _ else _) = _
      rw [if_pos c1]
    · have c1 : ¬ 4 < n := by have := of_decide_eq_false hb; omega
      have e : Ge13.step g (.hold n) = ({ g with game := { g.game with held := n } }, [0]) := by
        show (if 4 < n then _ else _) = _
        rw [if_neg c1]
      refine s_seq (s_set (is_game T h (is_var rfl)) ?_)
      refine s_seq (s_fld (is_var rfl) (is_var rfl) h.gm.g T.k_Game (by decide) (by show 5 < 1000; decide) fun dx e1 => ?_)
      have hg := h.gm.setG g.game.rest g.game.step n dx
      obtain ⟨h2, o2⟩ := h.game hg Went.gp
      refine s_retLst (σ := []) (vs := [iv 0]) (isA_cons is_c isA_nil) (by show 1 ≤ sizeLine; decide) fun p hp => ?_
      refine k _ A p ?_ (o2.trans (Out.same (same_new hp))) ?_ (not_out hp h2.refs)
      · rw [e]
        exact (h2.same (same_new hp)).more
      · rw [e, upd_same]
        rfl
theorem c_answer_speed : C8.Cal P w K mg base 2 "answer_speed" (spAns K a (one .speed)) [] := by
  obtain ⟨f, fd, F, b⟩ := T.d_answer_speed
  refine C8.cal0 F b .nil sc_answer_speed (fun vs H Q E h => ?len) (fun cdv A0 outer s H vs Q E hr h => ⟨_, (pss_cons (ps_set (i := 2) sc_answer_speed.nd rfl (Or.inl rfl) (pe_ix ix_list (pv 1) pe_int (fun _ _ => rfl))) (pss_cons (ps_if (PW.pt (pw_or (pt_cmpR op_lt (pv 2) pe_int (nomark _)) (pw_or1 (pt_cmpR op_gt (pv 2) (C8.pe_gc (by rfl) T.g_MOST_TICK_PARTS) (nomark _))))) (pss_one (ps_ret (C8.pe_c (c_refuse T) hr (by decide) (by rfl) (pa_cons (C8.pe_gc (by rfl) T.g_BEYOND_BOUNDS) pa_nil)))) pss_nil) (pss_cons (ps_set (i := 3) sc_answer_speed.nd rfl (Or.inl rfl) (pe_fld (pv 0) rfl)) (pss_cons (ps_fld (pv 3) (pv 2) rfl) (pss_cons (ps_fld (pv 3) (pe_callB (call_min2 rfl) (by rfl) T.n_min (by decide +kernel) (pa_cons (pe_fld (pv 3) rfl) (pa_cons (pe_op op_sub (pv 2) pe_int) pa_nil))) rfl) (pss_one (ps_ret (pe_lst (pa_cons pe_int pa_nil))))))))), ?rd⟩)
  case len =>
    obtain ⟨s, d, A, g, N, R, us, c, rfl, ⟨l, n, rest, rfl, _⟩, _⟩ := h
    rfl
  case rd =>
    obtain ⟨s, d, A, g, N, R, us, c, rfl, ⟨l, n, rest, rfl, hl, ec⟩, h, hv, hN, hap, k⟩ := h
    cases ec
    refine s_seq (s_set (is_first rfl hl) ?_)
    refine s_guard (isT_or (isT_op (is_var rfl) is_c) (fun _ => isT_op (is_var rfl) is_c)) (fun hb => ?_) (fun hb => ?_)
    · have c1 : n = 0 ∨ 100 < n := by
        simp only [Bool.or_eq_true, decide_eq_true_eq] at hb
        omega
      refine refused T h is_c ?_ k
      show (if n = 0 ∨ 100 < n then _ else _) = _
      rw [if_pos c1]
    · have c1 : ¬ (n = 0 ∨ 100 < n) := by
        simp only [Bool.or_eq_false_iff, decide_eq_false_iff_not] at hb
        omega
      have e : Ge13.step g (.speed n) = ({ g with game := { g.game with step := n, rest := min g.game.rest (n - 1) } }, [0]) := by
        show (if n = 0 ∨ 100 < n then _ else _) = _
        rw [if_neg c1]
      refine s_seq (s_set (is_game T h (is_var rfl)) ?_)
      refine s_seq (s_fld (is_var rfl) (is_var rfl) h.gm.g T.k_Game (by decide) (by show 5 < 1000; decide) fun dx e1 => ?_)
      have hg := h.gm.setG g.game.rest n g.game.held dx
      obtain ⟨h2, o2⟩ := h.game hg Went.gp
      have val : ∀ σ : L2.St, σ[3]? = some (some (.ref A.g)) → σ[2]? = some (some (iv n)) → Is (tCB (fun xs H Q => ∃ i j, xs = [.int i, .int j] ∧ Q (.int (if j < i then j else i)) H) (tCons (tFld K (tVar 3) "left_over") (tCons (tOp (rI0 fun i j => .int (i - j)) (tVar 2) (tC (.int 1))) tNil))) σ _ (iv (min g.game.rest (n - 1))) := fun σ s3 s2 => by
        refine is_cb (isA_cons (is_fld (is_var s3) h2.gm.g T.k_Game (by decide) l_left) (isA_cons (is_op0 (is_var s2) is_c) isA_nil)) fun Q' q => ⟨_, _, rfl, ?_⟩
        have ez : (if ((n : Nat) : Int) - 1 < ((g.game.rest : Nat) : Int) then ((n : Nat) : Int) - 1 else ((g.game.rest : Nat) : Int)) = ((min g.game.rest (n - 1) : Nat) : Int) := by
          split <;> omega
        rw [ez]
        exact q
      refine s_seq (s_fld (val _ rfl rfl) (is_var rfl) h2.gm.g T.k_Game (by decide) (by show 5 < 1000; decide) fun dx2 e2 => ?_)
      have hg3 := h2.gm.setG (min g.game.rest (n - 1)) n g.game.held dx2
      obtain ⟨h3, o3⟩ := h2.game hg3 Went.gp
      refine s_retLst (σ := []) (vs := [iv 0]) (isA_cons is_c isA_nil) (by show 1 ≤ sizeLine; decide) fun p hp => ?_
      refine k _ A p ?_ ((o2.trans o3).trans (Out.same (same_new hp))) ?_ (not_out hp h3.refs)
      · rw [e]
        exact (h3.same (same_new hp)).more
      · rw [e, upd_same]
        rfl
theorem c_are_too_many : C8.Cal P w K mg base 3 "are_too_many" (spTooMany K a) [] := by
  obtain ⟨f, fd, F, b⟩ := T.d_are_too_many
  refine C8.cal0 F b .nil sc_are_too_many (fun vs H Q E h => ?len) (fun cdv A0 outer s H vs Q E hr h => ⟨_, (pss_one (ps_ret (pe_and (pe_not (C8.pe_c (c_is_over T) hr (by decide) (by rfl) (pa_cons (C8.pe_c (c_standing_now T) hr (by decide) (by rfl) (pa_cons (pv 0) pa_nil)) pa_nil))) (pe_one (pe_cmpR op_gt (pe_op op_add (C8.pe_c (c_count_ticks T) hr (by decide) (by rfl) (pa_cons (pv 0) pa_nil)) (pv 1)) (C8.pe_gc (by rfl) T.g_MOST_TICKS) (nomark _)))))), ?rd⟩)
  case len => obtain ⟨A, x, n, rfl, _⟩ := h; rfl
  case rd =>
    obtain ⟨A, x, n, rfl, h, k⟩ := h
    refine s_ret (v := .bl (decide (x.now.over = 0) && decide (400 < x.keys.length + n))) ?_ k
    have e1 : (!(!decide (((x.now.over : Nat) : Int) = 0))) = decide (x.now.over = 0) := by
      rw [Bool.not_not]
      by_cases z : x.now.over = 0
      · rw [decide_eq_true z, decide_eq_true (by omega)]
      · rw [decide_eq_false z, decide_eq_false (by omega)]
    have e2 : decide ((400 : Int) < ((x.keys.length : Nat) : Int) + ((n : Nat) : Int)) = decide (400 < x.keys.length + n) := by
      by_cases z : 400 < x.keys.length + n
      · rw [decide_eq_true z, decide_eq_true (by omega)]
      · rw [decide_eq_false z, decide_eq_false (by omega)]
    rw [← e1, ← e2]
    obtain ⟨t, ht, hst⟩ := h.get (Nat.le_refl _)
    rw [← h.nw] at hst
    exact is_and (is_not (is_call (isA_cons (is_now T h (is_var rfl) ht) isA_nil) fun Q' E' q => ⟨t.st, t.cv, _, _, rfl, hst.ob, q⟩)) fun _ => is_op0 (is_op0 (is_count T h (is_var rfl)) (is_var rfl)) is_c
end
end G

set_option Elab.async false
set_option linter.all false
set_option maxRecDepth 100000
set_option maxHeartbeats 4000000
namespace G
open PySem PySem.Spec PyProof.Rows L2
open Ge13 (at_ put gems beside cellTo Marks goTo playerTurn stoneTurn monsterTurn)
open Gm
open U

/-- what a store into a dict asks once the value is there -/
def DPutK (td ty : TE) (D : Ends) (σ : L2.St) (v : V) (H1 : Hp) : Prop := td σ H1 fun x H2 => ty σ H2 fun y H3 => ∃ a H4, x = .ref a ∧ DPut H3 a y v H4 ∧ D.nx σ H4
section
variable {K : PySem.W.Frag} {σ : L2.St} {H : Hp} {D : Ends} {te td ty : TE} {t t1 t2 : L2.TA} {sp : Sp} {dvs vs ys : List V} {E : XK} {v : V}
theorem s_dputCall (h : IsA t σ H vs) (k : sp (vs ++ dvs) H (fun v H1 => DPutK td ty D σ v H1) E) : sDPut td ty (tCall sp dvs E t) D σ H := h _ k
theorem dput_in {d : Addr} {kvs : List (Key × V)} {k : Key} (ho : Is td σ H (.ref d)) (hk : Is ty σ H (kV k)) (h : H d = some (.dK kvs)) (hl : kvs.length < sizeLine) (q : D.nx σ (upd H d (.dK (putK kvs k v)))) : DPutK td ty D σ v H := ho _ (hk _ ⟨d, _, rfl, DPut.k h hl, q⟩)
/-- what + [..] asks once the left list is there -/
def CatK (t2 : L2.TA) (D : Ends) (σ : L2.St) (x : V) (H1 : Hp) : Prop := tLst t2 σ H1 fun y H2 => rCat x y H2 D.rt
theorem s_retCatC (h : IsA t1 σ H vs) (k : sp (vs ++ dvs) H (fun x H1 => CatK t2 D σ x H1) E) : tRet (tOp rCat (tCall sp dvs E t1) (tLst t2)) D σ H := h _ k
theorem cat_in {l : Addr} {xs : List V} (hl : H l = some (.lst xs)) (ha : IsA t2 σ H ys) (hn : xs.length + ys.length ≤ 1000) (q : ∀ p H2, H p = none → Same H H2 → H2 p = some (.lst (xs ++ ys)) → D.rt (.ref p) H2) : CatK t2 D σ (.ref l) H :=
  ha _ ⟨Nat.le_trans (Nat.le_add_left _ _) (Nat.le_trans hn (by decide)), fun p hp => ⟨l, p, xs, ys, rfl, rfl, by rw [upd_ne (ne_of_none hl hp)]; exact hl, upd_same, Nat.le_trans hn (by decide), fun r hr => by
    obtain ⟨n1, hr0⟩ := upd_none hr
    exact q r _ hr0 ((same_new hp).trans (same_new hr)) upd_same⟩⟩
end
/-- how it stands and what is left over: the answer of frame and load -/
theorem ans_stand {x : Ge13.Game} (h : GInv x) : [x.now.over, x.now.points, x.keys.length, gems x.now].map iv ++ [iv x.rest] = zv (Ge13.ints (Ge13.told x.now ++ [x.rest])) := by
  rw [← zv_ints, told_eq h, List.map_append]
  rfl
section
variable {P : Program} {w : World} {K : PySem.W.Frag} {mg : Str → Option Value} {base : Heap} {a : Ad} (T : Txt K mg a)
include T

theorem c_answer_frame : C8.Cal P w K mg base 8 "answer_frame" (spAns K a (one .frame)) [] := by
  obtain ⟨f, fd, F, b⟩ := T.d_answer_frame
  refine C8.cal0 F b .nil sc_answer_frame (fun vs H Q E h => ?len) (fun cdv A0 outer s H vs Q E hr h => ⟨_, (pss_cons (ps_set (i := 2) sc_answer_frame.nd rfl (Or.inl rfl) (pe_ix ix_list (pv 1) pe_int (fun _ _ => rfl))) (pss_cons (ps_set (i := 3) sc_answer_frame.nd rfl (Or.inl rfl) (pe_fld (pv 0) rfl)) (pss_cons (ps_if (pt_cmpR op_gt (pv 2) (C8.pe_gc (by rfl) T.g_MOST_FRAME_PARTS) (nomark _)) (pss_one (ps_ret (C8.pe_c (c_refuse T) hr (by decide) (by rfl) (pa_cons (C8.pe_gc (by rfl) T.g_BEYOND_BOUNDS) pa_nil)))) pss_nil) (pss_cons (ps_set (i := 4) sc_answer_frame.nd rfl (Or.inl rfl) (pe_op op_add (pe_fld (pv 3) rfl) (pv 2))) (pss_cons (ps_set (i := 5) sc_answer_frame.nd rfl (Or.inl rfl) (pe_op op_fdivN (pv 4) (pe_fld (pv 3) rfl))) (pss_cons (ps_if (pt_val (C8.pe_c (c_are_too_many T) hr (by decide) (by rfl) (pa_cons (pv 3) (pa_cons (pv 5) pa_nil)))) (pss_one (ps_ret (C8.pe_c (c_refuse T) hr (by decide) (by rfl) (pa_cons (C8.pe_gc (by rfl) T.g_TOO_MANY_TICKS) pa_nil)))) pss_nil) (pss_cons (ps_for PassesOwn.never rfl (pi_range1 (by rfl) T.n_range (pa_cons (pv 5) pa_nil)) (pg_name (i := 6) sc_answer_frame.nd rfl (Or.inl rfl)) (pss_one (ps_expr (C8.pe_c (c_press T) hr (by decide) (by rfl) (pa_cons (pv 3) (pa_cons (pe_fld (pv 3) rfl) pa_nil)))))) (pss_cons (ps_fld (pv 3) (pe_op op_modN (pv 4) (pe_fld (pv 3) rfl)) rfl) (pss_one (ps_ret (pe_op op_cat (C8.pe_c (c_how_it_stands T) hr (by decide) (by rfl) (pa_cons (pv 3) pa_nil)) (pe_lst (pa_cons (pe_fld (pv 3) rfl) pa_nil))))))))))))), ?rd⟩)
  case len =>
    obtain ⟨s, d, A, g, N, R, us, c, rfl, ⟨l, n, rest, rfl, _⟩, _⟩ := h
    rfl
  case rd =>
    obtain ⟨s, d, A, g, N, R, us, c, rfl, ⟨l, n, rest, rfl, hl, ec⟩, h, hv, hN, hap, k⟩ := h
    cases ec
    have gi := hv.gm
    have hst := gi.st
    refine s_seq (s_set (is_first rfl hl) ?_)
    refine s_seq (s_set (is_game T h (is_var rfl)) ?_)
    refine s_guard (isT_op (is_var rfl) is_c) (fun hb => ?_) (fun hb => ?_)
    · have c1 : 1000 < n := by have := of_decide_eq_true hb; omega
      refine refused T h is_c ?_ k
      show (if 1000 < n then _ else _) = _
      rw [if_pos c1]
    · have c1 : ¬ 1000 < n := by have := of_decide_eq_false hb; omega
      refine s_seq (s_set (is_to (is_op0 (is_fld (is_var rfl) h.gm.g T.k_Game (by decide) l_left) (is_var rfl)) (j := ((g.game.rest + n : Nat) : Int)) (by omega)) ?_)
      have hdv : CDivN ((g.game.rest + n : Nat) : Int) ((g.game.step : Nat) : Int) := ⟨by omega, by omega⟩
      have vdiv : ∀ σ : L2.St, σ[4]? = some (some (iv (g.game.rest + n))) → σ[3]? = some (some (.ref A.g)) → Is (tOp (rI CDivN fun i j => .int (i.fdiv j)) (tVar 4) (tFld K (tVar 3) "tick_parts")) σ H (iv ((g.game.rest + n) / g.game.step)) := fun σ s4 s3 => by
        refine is_to (is_opI (is_var s4) (is_fld (is_var s3) h.gm.g T.k_Game (by decide) l_parts) hdv) ?_
        exact fdiv_nat _ _
      refine s_seq (s_set (vdiv _ rfl rfl) ?_)
      generalize hq : (g.game.rest + n) / g.game.step = q
      have hqs : q ≤ 1100 := by
        rw [← hq]
        have := gi.rs
        exact Nat.le_trans (Nat.div_le_self _ _) (by omega)
      refine s_guard (isT_v (is_call (isA_cons (is_var rfl) (isA_cons (is_var rfl) isA_nil)) fun Q' E' z => ⟨A, g.game, q, rfl, h.gm, z⟩)) (fun hb => ?_) (fun hb => ?_)
      · rw [Bool.and_eq_true, decide_eq_true_eq, decide_eq_true_eq] at hb
        refine refused T h is_c ?_ k
        show (if 1000 < n then _ else if 400 < g.game.keys.length + (g.game.rest + n) / g.game.step ∧ g.game.now.over = 0 then _ else _) = _
        rw [if_neg c1, if_pos ⟨by rw [hq]; exact hb.2, hb.1⟩]
      · have c2 : ¬ (400 < g.game.keys.length + q ∧ g.game.now.over = 0) := fun z => by
          rw [decide_eq_true z.1, decide_eq_true z.2] at hb
          cases hb
        have c3 : g.game.now.over = 0 → g.game.keys.length + q ≤ 400 := fun ho => by
          apply Classical.byContradiction
          intro z
          exact c2 ⟨by omega, ho⟩
        have e : Ge13.step g (.frame n) = ({ g with game := Ge13.frame g.game n }, Ge13.ints (Ge13.told (Ge13.frame g.game n).now ++ [(Ge13.frame g.game n).rest])) := by
          show (if 1000 < n then _ else if 400 < g.game.keys.length + (g.game.rest + n) / g.game.step ∧ g.game.now.over = 0 then _ else _) = _
          rw [if_neg c1, if_neg (by rw [hq]; exact c2)]
        have fi : GInv (Ge13.frame g.game n) := frame_inv gi (by rw [hq]; exact c2)
        refine s_seq (s_range1 (n := q) (isA_cons (is_var rfl) isA_nil) (by omega) ?_)
        refine ⟨fun i σ H' => (∃ u6 : Option V, σ = [some (.ref s), some (.ref l), some (iv n), some (.ref A.g), some (iv (g.game.rest + n)), some (iv q), u6]) ∧ ∃ A' : GA, GameAt K a H' A' (pressN i g.game) ∧ Went H A H' A', ?_, ?_, ?_⟩
        · exact ⟨⟨none, rfl⟩, A, h.gm, Went.refl H⟩
        · rintro i σ H1 hi ⟨⟨u6, rfl⟩, A', hg, hf⟩
          have pi := pressN_inv i gi fun ho => by have := c3 ho; omega
          have pk := pressN_keep i g.game
          refine s_call (isA_cons (is_var rfl) (isA_cons (is_fld (is_var (by rw [hf.g]; rfl)) hg.g T.k_Game (by decide) l_held) isA_nil)) ?_
          refine ⟨A', pressN i g.game, (pressN i g.game).held, by rw [hf.g]; rfl, hg, pi.wf, pi.hd, by have := pi.kl; omega, fun H2 A2 h2 f2 => ⟨⟨_, rfl⟩, A2, ?_, hf.trans f2⟩⟩
          rw [pressN_succ]
          exact h2
        · rintro σ H1 ⟨⟨u6, rfl⟩, A', hg, hf⟩
          have pk := pressN_keep q g.game
          have hdm : ((pressN q g.game).step : Int) ≠ 0 := by rw [pk.2.1]; omega
          have val : Is (tOp (rI (fun _ j => j ≠ 0) fun i j => .int (i.fmod j)) (tVar 4) (tFld K (tVar 3) "tick_parts")) [some (.ref s), some (.ref l), some (iv n), some (.ref A.g), some (iv (g.game.rest + n)), some (iv q), u6] H1 (iv ((g.game.rest + n) % g.game.step)) := by
            refine is_to (is_opI (is_var rfl) (is_fld (is_var (by rw [hf.g]; rfl)) hg.g T.k_Game (by decide) l_parts) hdm) ?_
            rw [pk.2.1]
            exact fmod_nat _ _
          refine s_seq (s_fld val (is_var (by rw [hf.g]; rfl)) hg.g T.k_Game (by decide) (by show 5 < 1000; decide) fun dx _ => ?_)
          have hg2 := hg.setG ((g.game.rest + n) % g.game.step) (pressN q g.game).step (pressN q g.game).held dx
          have ef : Ge13.frame g.game n = { pressN q g.game with rest := (g.game.rest + n) % g.game.step } := by rw [frame_eq, hq]
          have hg3 : GameAt K a (upd H1 A'.g (.ins a.cGame dx (gamF A'.so A'.l ((g.game.rest + n) % g.game.step) (pressN q g.game).step (pressN q g.game).held))) A' (Ge13.frame g.game n) := by
            rw [ef]
            exact hg2
          obtain ⟨h4, o4⟩ := h.game hg3 (hf.trans Went.gp)
          refine s_retCatC (isA_cons (is_var rfl) isA_nil) ⟨A', Ge13.frame g.game n, by rw [hf.g]; rfl, hg3, fi.wf.len, fun p hp => ?_⟩
          have h5 := h4.same (same_new (o := .lst ([(Ge13.frame g.game n).now.over, (Ge13.frame g.game n).now.points, (Ge13.frame g.game n).keys.length, gems (Ge13.frame g.game n).now].map iv)) hp)
          refine cat_in upd_same (isA_cons (is_fld (is_var (by rw [hf.g]; rfl)) h5.gm.g T.k_Game (by decide) l_left) isA_nil) (by show 4 + 1 ≤ 1000; decide) fun r H6 hr sm hr6 => ?_
          refine k H6 A' r ?_ ((o4.trans (Out.same (same_new hp))).trans (Out.same sm)) ?_ (not_out hr h5.refs)
          · rw [e]
            exact (h5.same sm).more
          · rw [e, hr6]
            exact congrArg (fun z => some (HO.lst z)) (ans_stand fi)
theorem c_answer_save : C8.Cal P w K mg base 6 "answer_save" (spAns K a (one .save)) [] := by
  obtain ⟨f, fd, F, b⟩ := T.d_answer_save
  refine C8.cal0 F b .nil sc_answer_save (fun vs H Q E h => ?len) (fun cdv A0 outer s H vs Q E hr h => ⟨_, (pss_cons (ps_set (i := 2) sc_answer_save.nd rfl (Or.inl rfl) (pe_ix ix_list (pv 1) pe_int (fun _ _ => rfl))) (pss_cons (ps_if (pt_cmpR op_gt (pv 2) (C8.pe_gc (by rfl) T.g_LAST_WHERE) (nomark _)) (pss_one (ps_ret (C8.pe_c (c_refuse T) hr (by decide) (by rfl) (pa_cons (C8.pe_gc (by rfl) T.g_BEYOND_BOUNDS) pa_nil)))) pss_nil) (pss_cons (ps_dput (hu_of hr) (pe_fld (pv 0) rfl) (pv 2) (C8.pe_c (c_copy_game T) hr (by decide) (by rfl) (pa_cons (pe_fld (pv 0) rfl) pa_nil)) rfl) (pss_one (ps_ret (pe_lst (pa_cons (C8.pe_c (c_count_ticks T) hr (by decide) (by rfl) (pa_cons (pe_fld (pv 0) rfl) pa_nil)) pa_nil))))))), ?rd⟩)
  case len =>
    obtain ⟨s, d, A, g, N, R, us, c, rfl, ⟨l, n, rest, rfl, _⟩, _⟩ := h
    rfl
  case rd =>
    obtain ⟨s, d, A, g, N, R, us, c, rfl, ⟨l, n, rest, rfl, hl, ec⟩, h, hv, hN, hap, k⟩ := h
    cases ec
    refine s_seq (s_set (is_first rfl hl) ?_)
    refine s_guard (isT_op (is_var rfl) is_c) (fun hb => ?_) (fun hb => ?_)
    · have c1 : 9 < n := by have := of_decide_eq_true hb; omega
      refine refused T h is_c ?_ k
      show (if 9 < n then _ else _) = _
      rw [if_pos c1]
    · have c1 : ¬ 9 < n := by have := of_decide_eq_false hb; omega
      have e : Ge13.step g (.save n) = ({ g with slots := (g.slots.filter fun x => x.1 != n) ++ [(n, g.game)] }, Ge13.ints [g.game.now.ticks]) := by
        show (if 9 < n then _ else _) = _
        rw [if_neg c1]
      refine s_seq (s_dputCall (isA_cons (is_game T h (is_var rfl)) isA_nil) ⟨A, g.game, rfl, h.gm, fun H1 B sm hB e1 n1 n2 n3 => ?_⟩)
      have h1 := h.same sm
      obtain ⟨kvs, hd, hkl, hk⟩ := h1.kp
      refine dput_in (k := .inl (n : Int)) (is_kept T h1 (is_var rfl)) (is_var rfl) hd (Nat.lt_of_le_of_lt hkl (Nat.lt_trans hN (by decide))) ?_
      obtain ⟨h2, o2⟩ := h.keep (n := n) sm hB ⟨n1, n2, n3⟩ e1 hd
      refine s_retLst (vs := [iv g.game.keys.length]) (isA_cons (is_call (isA_cons (is_game T h2 (is_var rfl)) isA_nil) fun Q' E' q => ⟨A, g.game, rfl, h2.gm, q⟩) isA_nil) (by show 1 ≤ sizeLine; decide) fun p hp => ?_
      refine k _ A p ?_ (o2.trans (Out.same (same_new hp))) ?_ (not_out hp h2.refs)
      · rw [e]
        exact h2.same (same_new hp)
      · rw [e, upd_same, hv.gm.tk]
        rfl
theorem c_answer_load : C8.Cal P w K mg base 6 "answer_load" (spAns K a (one .load)) [] := by
  obtain ⟨f, fd, F, b⟩ := T.d_answer_load
  refine C8.cal0 F b .nil sc_answer_load (fun vs H Q E h => ?len) (fun cdv A0 outer s H vs Q E hr h => ⟨_, (pss_cons (ps_set (i := 2) sc_answer_load.nd rfl (Or.inl rfl) (pe_ix ix_list (pv 1) pe_int (fun _ _ => rfl))) (pss_cons (ps_if (pt_cmp (pc_dnotin (hu_of hr) (pv 2) (pe_fld (pv 0) rfl))) (pss_one (ps_ret (C8.pe_c (c_refuse T) hr (by decide) (by rfl) (pa_cons (C8.pe_gc (by rfl) T.g_NOT_THERE) pa_nil)))) pss_nil) (pss_cons (ps_fld (pv 0) (C8.pe_c (c_copy_game T) hr (by decide) (by rfl) (pa_cons (pe_dget (hu_of hr) (pe_fld (pv 0) rfl) (pv 2) (fun _ _ => rfl)) pa_nil)) rfl) (pss_one (ps_ret (pe_op op_cat (C8.pe_c (c_how_it_stands T) hr (by decide) (by rfl) (pa_cons (pe_fld (pv 0) rfl) pa_nil)) (pe_lst (pa_cons (pe_fld (pe_fld (pv 0) rfl) rfl) pa_nil)))))))), ?rd⟩)
  case len =>
    obtain ⟨s, d, A, g, N, R, us, c, rfl, ⟨l, n, rest, rfl, _⟩, _⟩ := h
    rfl
  case rd =>
    obtain ⟨s, d, A, g, N, R, us, c, rfl, ⟨l, n, rest, rfl, hl, ec⟩, h, hv, hN, hap, k⟩ := h
    cases ec
    refine s_seq (s_set (is_first rfl hl) ?_)
    obtain ⟨kvs, hd, hkl, hk⟩ := h.kp
    have q := hk n
    refine s_guard (isT_v (is_dnotin (k := .inl (n : Int)) (is_var rfl) (is_kept T h (is_var rfl)) hd)) (fun hb => ?_) (fun hb => ?_)
    · have e0 : Ge13.slot g n = none := by
        cases e1 : Ge13.slot g n with
        | none => rfl
        | some x =>
          rw [e1] at q
          obtain ⟨B, q1, _⟩ := q
          rw [q1] at hb
          cases hb
      refine refused T h is_c ?_ k
      show (match Ge13.slot g n with | none => _ | some x => _) = _
      rw [e0]
    · cases e0 : Ge13.slot g n with
      | none =>
        rw [e0] at q
        rw [q] at hb
        cases hb
      | some x =>
        rw [e0] at q
        obtain ⟨B, q1, q2, q3, q4⟩ := q
        have e : Ge13.step g (.load n) = ({ g with game := x }, Ge13.ints (Ge13.told x.now ++ [x.rest])) := by
          show (match Ge13.slot g n with | none => _ | some x => _) = _
          rw [e0]
        have xi := hv.sl n x e0
        refine s_seq (s_fldCall (isA_cons (is_dget (k := .inl (n : Int)) (is_kept T h (is_var rfl)) (is_var rfl) hd q1) isA_nil) ⟨B, x, rfl, q2, fun H1 A' sm hA' e1 n1 n2 n3 => ?_⟩)
        refine fld_in (is_var rfl) (ob_same h.ob sm) T.k_Session (by decide) (by show 2 < 1000; decide) fun dx _ => ?_
        obtain ⟨h2, o2⟩ := h.newGame sm hA' ⟨n1, n2, n3⟩ (fun b r p => by
          rw [e1] at p
          exact q4 b r (.inr p)) dx
        refine s_retCatC (isA_cons (is_game T h2 (is_var rfl)) isA_nil) ⟨A', x, rfl, h2.gm, xi.wf.len, fun p hp => ?_⟩
        have h5 := h2.same (same_new (o := .lst ([x.now.over, x.now.points, x.keys.length, gems x.now].map iv)) hp)
        refine cat_in upd_same (isA_cons (is_fld (is_game T h5 (is_var rfl)) h5.gm.g T.k_Game (by decide) l_left) isA_nil) (by show 4 + 1 ≤ 1000; decide) fun r H6 hr sm6 hr6 => ?_
        refine k H6 A' r ?_ ((o2.trans (Out.same (same_new hp))).trans (Out.same sm6)) ?_ (not_out hr h5.refs)
        · rw [e]
          exact (h5.same sm6).more
        · rw [e, hr6]
          exact congrArg (fun z => some (HO.lst z)) (ans_stand xi)
theorem c_answer_shows : C8.Cal P w K mg base 6 "answer_shows" (spAns K a (any0 .shows)) [] := by
  obtain ⟨f, fd, F, b⟩ := T.d_answer_shows
  refine C8.cal0 F b .nil sc_answer_shows (fun vs H Q E h => ?len) (fun cdv A0 outer s H vs Q E hr h => ⟨_, (pss_one (ps_ret (C8.pe_c (c_counted_text T) hr (by decide) (by rfl) (pa_cons (C8.pe_c (c_cave_now T) hr (by decide) (by rfl) (pa_cons (pv 0) pa_nil)) pa_nil)))), ?rd⟩)
  case len =>
    obtain ⟨s, d, A, g, N, R, us, c, rfl, ⟨l, rfl, _⟩, _⟩ := h
    rfl
  case rd =>
    obtain ⟨s, d, A, g, N, R, us, c, rfl, ⟨l, rfl, ec⟩, h, hv, hN, hap, k⟩ := h
    cases ec
    obtain ⟨t, ht, hst⟩ := h.now
    refine s_retCall (isA_cons (is_caveNow T h (is_var rfl) ht) isA_nil) ⟨t.cv, t.pl, g.game.now, rfl, hst.cv, hv.gm.wf, fun H1 r sm hr hr1 => ?_⟩
    refine k H1 A r (h.same sm).more (Out.same sm) ?_ (not_out hr h.refs)
    rw [hr1]
    refine congrArg (fun z => some (HO.lst z)) ?_
    show _ = zv (Ge13.ints ((Ge13.write g.game.now).length :: Ge13.write g.game.now))
    rw [← zv_ints]
end
end G

set_option Elab.async false
set_option linter.all false
set_option maxRecDepth 100000
set_option maxHeartbeats 4000000
namespace G
open PySem PySem.Spec PyProof.Rows L2
open Ge13 (at_ put gems beside cellTo Marks goTo playerTurn stoneTurn monsterTurn)
open Gm
open U

/-! ### lists of lists -/
inductive Prs (H : Hp) : List Addr → List (List Nat) → Prop
  | nil : Prs H [] []
  | cons {p : Addr} {r : List Nat} {as : List Addr} {rs : List (List Nat)} (h : H p = some (.lst (r.map iv))) (t : Prs H as rs) : Prs H (p :: as) (r :: rs)
theorem Prs.same {H H' : Hp} (s : Same H H') : ∀ {as : List Addr} {rs : List (List Nat)}, Prs H as rs → Prs H' as rs
  | _, _, .nil => .nil
  | _, _, .cons h t => .cons (s _ _ h) (t.same s)
theorem Prs.snoc {H : Hp} {p : Addr} {r : List Nat} (h : H p = some (.lst (r.map iv))) : ∀ {as : List Addr} {rs : List (List Nat)}, Prs H as rs → Prs H (as ++ [p]) (rs ++ [r])
  | _, _, .nil => .cons h .nil
  | _, _, .cons h' t => .cons h' (t.snoc h)
theorem Prs.len {H : Hp} : ∀ {as : List Addr} {rs : List (List Nat)}, Prs H as rs → as.length = rs.length
  | _, _, .nil => rfl
  | _, _, .cons _ t => congrArg (· + 1) t.len
theorem Prs.get {H : Hp} : ∀ {as : List Addr} {rs : List (List Nat)} {i : Nat} {r : List Nat}, Prs H as rs → rs[i]? = some r → ∃ p, as[i]? = some p ∧ H p = some (.lst (r.map iv))
  | _, _, i, r, .nil, e => by simp at e
  | _, _, 0, r, .cons h t, e => by
    cases e
    exact ⟨_, rfl, h⟩
  | _, _, i + 1, r, .cons h t, e => by
    obtain ⟨p, h1, h2⟩ := t.get (i := i) (r := r) e
    exact ⟨p, h1, h2⟩
theorem Prs.upd {H : Hp} {q : Addr} {o : HO} : ∀ {as : List Addr} {rs : List (List Nat)}, q ∉ as → Prs H as rs → Prs (upd H q o) as rs
  | _, _, _, .nil => .nil
  | _, _, n, .cons h t => .cons (by rw [upd_ne (fun z => n (List.mem_cons.mpr (.inl z.symm)))]; exact h) (t.upd fun z => n (List.mem_cons.mpr (.inr z)))
theorem Prs.some {H : Hp} {q : Addr} : ∀ {as : List Addr} {rs : List (List Nat)}, Prs H as rs → q ∈ as → ∃ o, H q = some o
  | _, _, .nil, m => by cases m
  | _, _, .cons h t, m => by
    rcases List.mem_cons.mp m with z | z
    · rw [z]
      exact ⟨_, h⟩
    · exact t.some z
def RowsAt (H : Hp) (p : Addr) (rows : List (List Nat)) : Prop := ∃ as : List Addr, H p = some (.lst (as.map V.ref)) ∧ Prs H as rows
theorem RowsAt.same {H H' : Hp} {p : Addr} {rows : List (List Nat)} (h : RowsAt H p rows) (s : Same H H') : RowsAt H' p rows := by
  obtain ⟨as, e, q⟩ := h
  exact ⟨as, s _ _ e, q.same s⟩
def spSplit : Sp := fun vs H Q _ => ∃ (t : Addr) (w : List Nat), vs = [.ref t] ∧ H t = some (.lst (w.map iv)) ∧ w.length ≤ 1000 ∧ ∀ H' l, Same H H' → H l = none → RowsAt H' l (rowsP w) → Q (.ref l) H'
theorem foldP_take {w : List Nat} {i : Nat} {b : Nat} (h : w[i]? = some b) : (w.take (i + 1)).foldl stepP ([], []) = stepP ((w.take i).foldl stepP ([], [])) b := by
  rw [take_snoc h, List.foldl_append]
  rfl
theorem foldP_small : ∀ (w : List Nat) (s : List (List Nat) × List Nat), (w.foldl stepP s).1.length ≤ s.1.length + w.length ∧ (w.foldl stepP s).2.length ≤ s.2.length + w.length
  | [], s => ⟨Nat.le_refl _, Nat.le_refl _⟩
  | b :: w, s => by
    have h := foldP_small w (stepP s b)
    have k : (stepP s b).1.length ≤ s.1.length + 1 ∧ (stepP s b).2.length ≤ s.2.length + 1 := by
      unfold stepP
      split <;> simp
    rw [List.foldl_cons, List.length_cons]
    omega
section
variable {P : Program} {w : World} {K : PySem.W.Frag} {mg : Str → Option Value} {base : Heap} {a : Ad} (T : Txt K mg a)
include T

theorem c_split_rows : C8.Cal P w K mg base 1 "split_rows" (spSplit) [] := by
  obtain ⟨f, fd, F, b⟩ := T.d_split_rows
  refine C8.cal0 F b .nil sc_split_rows (fun vs H Q E h => ?len) (fun cdv A0 outer s H vs Q E hr h => ⟨_, (pss_cons (ps_set (i := 1) sc_split_rows.nd rfl (Or.inl rfl) (pe_lst pa_nil)) (pss_cons (ps_set (i := 2) sc_split_rows.nd rfl (Or.inl rfl) (pe_lst pa_nil)) (pss_cons (ps_for PassesOwn.never rfl (pi_list (pv 0)) (pg_name (i := 3) sc_split_rows.nd rfl (Or.inl rfl)) (pss_one (ps_if (pt_cmpR op_eq (pv 3) (C8.pe_gc (by rfl) T.g_ROW_END) (nomark _)) (pss_cons (ps_expr (pe_bm PySem.F.plainAttrs_list PySem.F.slot_list_append PySem.F.type_list_append mt_append (pv 1) (pa_cons (pv 2) pa_nil))) (pss_one (ps_set (i := 2) sc_split_rows.nd rfl (Or.inl rfl) (pe_lst pa_nil)))) (pss_one (ps_expr (pe_bm PySem.F.plainAttrs_list PySem.F.slot_list_append PySem.F.type_list_append mt_append (pv 2) (pa_cons (pv 3) pa_nil))))))) (pss_cons (ps_if (pt_cmpR op_gt (pe_callB call_len_seq (by rfl) T.n_len (by decide +kernel) (pa_cons (pv 2) pa_nil)) pe_int (nomark _)) (pss_one (ps_expr (pe_bm PySem.F.plainAttrs_list PySem.F.slot_list_append PySem.F.type_list_append mt_append (pv 1) (pa_cons (pv 2) pa_nil)))) pss_nil) (pss_one (ps_ret (pv 1))))))), ?rd⟩)
  case len => obtain ⟨t, w, rfl, _⟩ := h; rfl
  case rd =>
    obtain ⟨t, w, rfl, ht, hw, k⟩ := h
    refine s_seq (s_setLst isA_nil (Nat.zero_le _) fun l hl => ?_)
    refine s_seq (s_setLst isA_nil (Nat.zero_le _) fun q hq => ?_)
    obtain ⟨nq, hq0⟩ := upd_none hq
    have sm0 : Same H (upd (upd H l (.lst [])) q (.lst [])) := (same_new hl).trans (same_new hq)
    have ht0 := sm0 _ _ ht
    have hl0 : (upd (upd H l (.lst [])) q (.lst [])) l = some (.lst []) := by rw [upd_ne nq.symm, upd_same]
    have hq1 : (upd (upd H l (.lst [])) q (.lst [])) q = some (.lst []) := upd_same
    generalize (upd (upd H l (.lst [])) q (.lst [])) = H0 at sm0 ht0 hl0 hq1
    have tl : t ≠ l := ne_of_none ht hl
    refine s_seq (s_forList (is_var rfl) (SqL.of ht0) ?_)
    refine ⟨fun i σ H' => ∃ (as : List Addr) (q : Addr) (u : Option V), σ = [some (.ref t), some (.ref l), some (.ref q), u] ∧ Same H H' ∧ H' l = some (.lst (as.map V.ref)) ∧
      Prs H' as ((w.take i).foldl stepP ([], [])).1 ∧ H' q = some (.lst ((((w.take i).foldl stepP ([], [])).2).map iv)) ∧ q ∉ as ∧ l ∉ as ∧ l ≠ q ∧ H q = none, ?_, ?_, ?_, ?_⟩
    · exact ⟨[], q, none, rfl, sm0, hl0, .nil, hq1, by simp, by simp, nq.symm, hq0⟩
    · rintro i σ H' _ ⟨as, q, u, rfl, sm, _⟩
      exact SqL.of (sm _ _ ht)
    · rintro i x σ H1 hi ⟨as, q, u, rfl, sm, h1, h2, h3, h4, h5, h6, h7⟩
      obtain ⟨b, hb, rfl⟩ := map_get hi
      have st := foldP_take hb
      have sz := foldP_small (w.take i) ([], [])
      have li : (w.take i).length ≤ 1000 := by rw [List.length_take]; omega
      simp only [List.length_nil, Nat.zero_add] at sz
      generalize (w.take i).foldl stepP ([], []) = s0 at st sz h2 h3
      have la := h2.len
      refine s_if (isT_t (is_eqI (is_var rfl) is_c)) (fun hc => ?_) (fun hc => ?_)
      · have hb10 : b = 10 := n_t 10 hc
        have es : stepP s0 b = (s0.1 ++ [s0.2], []) := if_pos hb10
        rw [es] at st
        refine s_seq (s_append (is_var rfl) (isA_cons (is_var rfl) isA_nil) h1 (by rw [List.length_map]; exact small1000 (by omega)) ?_)
        refine s_setLst isA_nil (Nat.zero_le _) fun q2 hq2 => ?_
        obtain ⟨nq2, hq20⟩ := upd_none hq2
        have sm1 : Same H (upd (upd H1 l (.lst (as.map V.ref ++ [.ref q]))) q2 (.lst [])) := fun b' o hb' => by
          rw [upd_ne (ne_of_none (by rw [upd_ne (ne_of_none hb' hl)]; exact sm _ _ hb') hq2), upd_ne (ne_of_none hb' hl)]
          exact sm _ _ hb'
        have nas : q2 ∉ as ++ [q] := fun z => by
          rcases List.mem_append.mp z with z | z
          · obtain ⟨o, e⟩ := h2.some z
            rw [hq20] at e
            cases e
          · rw [List.mem_singleton.mp z, h3] at hq20
            cases hq20
        refine ⟨as ++ [q], q2, _, rfl, sm1, ?_, ?_, ?_, nas, ?_, nq2.symm, ?_⟩
        · rw [upd_ne nq2.symm, upd_same, List.map_append]
          rfl
        · rw [st]
          refine (Prs.snoc ?_ ((h2.upd h5).upd fun z => nas (List.mem_append.mpr (.inl z))))
          rw [upd_ne (fun z => nas (by rw [← z]; simp)), upd_ne h6.symm]
          exact h3
        · rw [st, upd_same]
          rfl
        · intro z
          rcases List.mem_append.mp z with z | z
          · exact h5 z
          · exact h6 (List.mem_singleton.mp z)
        · cases e : H q2 with
          | none => rfl
          | some o =>
            rw [sm q2 o e] at hq20
            cases hq20
      · have hb10 : ¬ b = 10 := n_f 10 hc
        have es : stepP s0 b = (s0.1, s0.2 ++ [b]) := if_neg hb10
        rw [es] at st
        refine s_append (is_var rfl) (isA_cons (is_var rfl) isA_nil) h3 (by rw [List.length_map]; exact small1000 (by omega)) ?_
        refine ⟨as, q, _, rfl, fun b' o hb' => ?_, ?_, ?_, ?_, h4, h5, h6, h7⟩
        · rw [upd_ne (ne_of_none hb' h7)]
          exact sm _ _ hb'
        · rw [upd_ne h6]
          exact h1
        · rw [st]
          exact h2.upd h4
        · rw [st, upd_same, List.map_append]
          rfl
    · rintro σ H1 ⟨as, q, u, rfl, sm, h1, h2, h3, h4, h5, h6, h7⟩
      rw [List.length_map, List.take_length] at h2 h3
      have sz := foldP_small w ([], [])
      simp only [List.length_nil, Nat.zero_add] at sz
      have er : rowsP w = endP (w.foldl stepP ([], [])) := rfl
      generalize w.foldl stepP ([], []) = s0 at sz h2 h3 er
      have la := h2.len
      have ln : Is (tCB (U.rLen K) (tCons (tVar 2) tNil)) [some (.ref t), some (.ref l), some (.ref q), u] H1 (.int ((s0.2.length : Nat) : Int)) := is_to (is_len (is_var rfl) (SqL.of h3)) (by rw [List.length_map])
      refine s_seq (s_if (isT_op ln is_c) (fun hc => ?_) (fun hc => ?_))
      · have hp : 0 < s0.2.length := by have := of_decide_eq_true hc; omega
        have e2 : endP s0 = s0.1 ++ [s0.2] := if_pos hp
        refine s_append (is_var rfl) (isA_cons (is_var rfl) isA_nil) h1 (by rw [List.length_map]; exact small1000 (by omega)) ?_
        refine s_ret (is_var rfl) (k _ l (fun b' o hb' => ?_) hl ⟨as ++ [q], ?_, ?_⟩)
        · rw [upd_ne (ne_of_none hb' hl)]
          exact sm _ _ hb'
        · rw [upd_same, List.map_append]
          rfl
        · rw [er, e2]
          refine (Prs.snoc ?_ (h2.upd h5))
          rw [upd_ne h6.symm]
          exact h3
      · have hp : ¬ 0 < s0.2.length := by have := of_decide_eq_false hc; omega
        have e2 : endP s0 = s0.1 := if_neg hp
        refine s_next (s_ret (is_var rfl) (k _ l sm hl ⟨as, h1, ?_⟩))
        rw [er, e2]
        exact h2
end
end G

set_option Elab.async false
set_option linter.all false
set_option maxRecDepth 100000
set_option maxHeartbeats 4000000
namespace G
open PySem PySem.Spec PyProof.Rows L2
open Ge13 (at_ put gems beside cellTo Marks goTo playerTurn stoneTurn monsterTurn)
open Gm
open U

theorem known_is (b : Nat) : isKnown (b : Int) = Ge13.signs.contains b := by
  unfold isKnown inV
  have h : ∀ l : List Nat, ((l.map iv).any fun y => eqV y (.int (b : Int))) = l.contains b := fun l => by
    induction l with
    | nil => rfl
    | cons a l ih =>
      rw [List.map_cons, List.any_cons, ih, List.contains_cons]
      congr 1
      show eqV (.int (a : Int)) (.int (b : Int)) = (b == a)
      by_cases e : a = b
      · subst e
        simp [eqV]
      · have e2 : ¬ ((a : Int) = (b : Int)) := by omega
        have e3 : (b == a) = false := beq_eq_false_iff_ne.mpr fun z => e z.symm
        rw [e3]
        simp [eqV, e2]
  exact h _
def strV (v : V) : Bool := match v with
  | .int n => !decide (n = 10) && !isKnown n
  | _ => false
theorem strV_any (w : List Nat) : (w.map iv).any strV = strange w := by
  unfold strange
  rw [List.any_map]
  congr 1
  funext b
  show (!decide ((b : Int) = 10) && !isKnown (b : Int)) = (b != 10 && !Ge13.signs.contains b)
  rw [known_is]
  by_cases e : b = 10
  · subst e
    rfl
  · have e2 : ¬ ((b : Int) = 10) := by omega
    have e3 : (b != 10) = true := by simp [e]
    rw [decide_eq_false e2, e3]
    rfl
def spStrange : Sp := fun vs H Q _ => ∃ (t : Addr) (w : List Nat), vs = [.ref t] ∧ H t = some (.lst (w.map iv)) ∧ w.length ≤ 1000 ∧ ∀ H', Same H H' → Q (.bl (strange w)) H'
def spUneven : Sp := fun vs H Q _ => ∃ (t : Addr) (rows : List (List Nat)), vs = [.ref t] ∧ RowsAt H t rows ∧ rows.length ≤ 2000 ∧ ∀ H', Same H H' → Q (.bl (uneven rows)) H'
def spWrong : Sp := fun vs H Q _ => ∃ (t : Addr) (rows : List (List Nat)), vs = [.ref t] ∧ RowsAt H t rows ∧ Q (.bl (wrong rows)) H
def spFault : Sp := fun vs H Q _ => ∃ (t : Addr) (w : List Nat), vs = [.ref t] ∧ H t = some (.lst (w.map iv)) ∧ w.length ≤ 1000 ∧ ∀ H', Same H H' → Q (iv (faultOf w)) H'
def rowV (H : Hp) (n : Nat) (v : V) : Bool := match v with
  | .ref p => (match H p with
    | some (.lst xs) => !decide ((xs.length : Int) = (n : Int))
    | _ => false)
  | _ => false
theorem rowV_any {H : Hp} {n : Nat} : ∀ {as : List Addr} {rs : List (List Nat)}, Prs H as rs → (as.map V.ref).any (rowV H n) = rs.any fun r => r.length != n
  | _, _, .nil => rfl
  | _, _, .cons (p := p) (r := r) h t => by
    rw [List.map_cons, List.any_cons, List.any_cons, rowV_any t]
    congr 1
    show (match H p with | some (.lst xs) => !decide ((xs.length : Int) = (n : Int)) | _ => false) = (r.length != n)
    rw [h]
    show (!decide (((r.map iv).length : Int) = (n : Int))) = (r.length != n)
    rw [List.length_map]
    by_cases e : r.length = n
    · rw [decide_eq_true (by omega), e]
      simp
    · rw [decide_eq_false (by omega)]
      simp [e]
theorem rows_len (w : List Nat) : (rowsP w).length ≤ w.length + 1 := by
  have sz := foldP_small w ([], [])
  simp only [List.length_nil, Nat.zero_add] at sz
  unfold rowsP endP
  split
  · rw [List.length_append, List.length_singleton]
    omega
  · omega
/-- what an if asks once its test's answer is there -/
def GuardK (p u : TS) (D : Ends) (σ : L2.St) (v : V) (H : Hp) : Prop := ∃ b, v = .bl b ∧ if b = true then p { D with nx := u D } σ H else tNext { D with nx := u D } σ H
theorem s_guardCall {σ : L2.St} {H : Hp} {D : Ends} {sp : Sp} {vs : List V} {t : L2.TA} {p u : TS} (h : IsA t σ H vs) (k : sp (vs ++ []) H (fun v H1 => GuardK p u D σ v H1) C8.E0) : tSeq (tIfS (tB (tCall sp [] C8.E0 t)) p tNext) u D σ H := h _ k
theorem guard_in {σ : L2.St} {H : Hp} {D : Ends} {p u : TS} {b : Bool} (k1 : b = true → p { D with nx := u D } σ H) (k2 : b = false → u D σ H) : GuardK p u D σ (.bl b) H := ⟨b, rfl, by
  cases b with
  | true => exact iteT (k1 rfl)
  | false => exact iteF (k2 rfl)⟩
section
variable {P : Program} {w : World} {K : PySem.W.Frag} {mg : Str → Option Value} {base : Heap} {a : Ad} (T : Txt K mg a)
include T

/-- len(rows[0]) -/
theorem is_len0 {σ : L2.St} {H : Hp} {t : Addr} {rows : List (List Nat)} {te : TE} (h : RowsAt H t rows) (i : Is te σ H (.ref t)) (hn : rows ≠ []) : Is (tCB (U.rLen K) (tCons (tOp (rIxL K) te (tC (.int 0))) tNil)) σ H (iv (rows.headD []).length) := by
  obtain ⟨as, e, q⟩ := h
  cases rows with
  | nil => exact absurd rfl hn
  | cons r rs =>
    obtain ⟨p, h1, h2⟩ := q.get (i := 0) (r := r) rfl
    refine is_to (is_len (is_ixL i is_c (SqL.of e) (atI_nat (j := 0) (by rw [List.getElem?_map, h1]; rfl))) (SqL.of h2)) ?_
    rw [List.length_map]
    rfl
theorem c_has_strange_byte : C8.Cal P w K mg base 2 "has_strange_byte" (spStrange) [] := by
  obtain ⟨f, fd, F, b⟩ := T.d_has_strange_byte
  refine C8.cal0 F b .nil sc_has_strange_byte (fun vs H Q E h => ?len) (fun cdv A0 outer s H vs Q E hr h => ⟨_, (pss_one (ps_ret (pe_callB (cr_any rfl) (by rfl) T.n_any (by decide +kernel) (pa_cons (pe_lc (own := [("byte", 1)]) (g := gName 1) (tt := tYes) rfl sc_has_strange_byte.nd (pi_list (pv 0)) (blkOk_by (own := [("byte", 1)]) (N := nm_has_strange_byte) (sc := C8.fnScope s_has_strange_byte) (by decide +kernel)) (fun _ _ _ _ _ => (pg_name (i := 1) sc_has_strange_byte.nd rfl (Or.inl rfl))) (fun _ _ _ _ _ => pts_nil) (fun _ _ _ _ _ => (pe_and (pe_cmpR op_ne (pv 1) (C8.pe_gc (by rfl) T.g_ROW_END) (nomark _)) (pe_one (pe_not (C8.pe_c (c_is_known_byte T) hr (by decide) (by rfl) (pa_cons (pv 1) pa_nil))))))) pa_nil)))), ?rd⟩)
  case len => obtain ⟨t, w, rfl, _⟩ := h; rfl
  case rd =>
    obtain ⟨t, w, rfl, ht, hw, k⟩ := h
    refine anyL (g := strV) (is_var rfl) (SqL.of ht) (by rw [List.length_map]; omega) (fun x hx H' sm => ?_) fun H' sm => ?_
    · obtain ⟨b, hb, rfl⟩ := List.mem_map.mp hx
      exact is_and (is_neI (is_var rfl) is_c) fun _ => is_not (is_g (is_var rfl))
    · rw [strV_any]
      exact k H' sm
theorem c_has_uneven_rows : C8.Cal P w K mg base 1 "has_uneven_rows" (spUneven) [] := by
  obtain ⟨f, fd, F, b⟩ := T.d_has_uneven_rows
  refine C8.cal0 F b .nil sc_has_uneven_rows (fun vs H Q E h => ?len) (fun cdv A0 outer s H vs Q E hr h => ⟨_, (pss_one (ps_ret (pe_callB (cr_any rfl) (by rfl) T.n_any (by decide +kernel) (pa_cons (pe_lc (own := [("row", 1)]) (g := gName 1) (tt := tYes) (te := tOp rNe (tCB (U.rLen K) (tCons (tVar 1) tNil)) (tCB (U.rLen K) (tCons (tOp (rIxL K) (tVar 0) (tC (.int 0))) tNil))) rfl sc_has_uneven_rows.nd (pi_list (pv 0)) (blkOk_by (own := [("row", 1)]) (N := nm_has_uneven_rows) (sc := C8.fnScope s_has_uneven_rows) (by decide +kernel)) (fun _ _ _ _ _ => (pg_name (i := 1) sc_has_uneven_rows.nd rfl (Or.inl rfl))) (fun _ _ _ _ _ => pts_nil) (fun _ _ _ _ _ => (pe_cmpR op_ne (pe_callB call_len_seq (by rfl) T.n_len (by decide +kernel) (pa_cons (pv 1) pa_nil)) (pe_callB call_len_seq (by rfl) T.n_len (by decide +kernel) (pa_cons (pe_ix ix_list (pv 0) pe_int (fun _ _ => rfl)) pa_nil)) (nomark _)))) pa_nil)))), ?rd⟩)
  case len => obtain ⟨t, w, rfl, _⟩ := h; rfl
  case rd =>
    obtain ⟨t, rows, rfl, ⟨as, e, q⟩, hn, k⟩ := h
    refine anyL (g := rowV H (rows.headD []).length) (is_var rfl) (SqL.of e) (by rw [List.length_map, q.len]; omega) (fun x hx H' sm => ?_) fun H' sm => ?_
    · obtain ⟨p, hp, rfl⟩ := List.mem_map.mp hx
      obtain ⟨i, hi⟩ := List.mem_iff_getElem?.mp hp
      have hil : i < rows.length := by
        rw [← q.len]
        exact (List.getElem?_eq_some_iff.mp hi).1
      obtain ⟨p', h1, h2⟩ := q.get (i := i) (List.getElem?_eq_getElem hil)
      have ep : p = p' := Option.some.inj (hi.symm.trans h1)
      subst ep
      have ne : rows ≠ [] := fun z => by rw [z] at hil; cases hil
      have e1 : rowV H (rows.headD []).length (.ref p) = !decide ((((rows[i].map iv).length : Nat) : Int) = (((rows.headD []).length : Nat) : Int)) := by
        show (match H p with | some (.lst xs) => !decide ((xs.length : Int) = (((rows.headD []).length : Nat) : Int)) | _ => false) = _
        rw [h2]
      rw [e1]
      exact is_neI (is_len (is_var rfl) (SqL.of (sm _ _ h2))) (is_len0 T (RowsAt.same ⟨as, e, q⟩ sm) (is_var rfl) ne)
    · rw [rowV_any q]
      exact k H' sm
theorem c_has_wrong_size : C8.Cal P w K mg base 1 "has_wrong_size" (spWrong) [] := by
  obtain ⟨f, fd, F, b⟩ := T.d_has_wrong_size
  refine C8.cal0 F b .nil sc_has_wrong_size (fun vs H Q E h => ?len) (fun cdv A0 outer s H vs Q E hr h => ⟨_, (pss_cons (ps_if (PW.pt (pw_or (pt_cmpR op_eq (pe_callB call_len_seq (by rfl) T.n_len (by decide +kernel) (pa_cons (pv 0) pa_nil)) pe_int (nomark _)) (pw_or1 (pt_cmpR op_gt (pe_callB call_len_seq (by rfl) T.n_len (by decide +kernel) (pa_cons (pv 0) pa_nil)) (C8.pe_gc (by rfl) T.g_MOST_ROWS) (nomark _))))) (pss_one (ps_ret pe_bl)) pss_nil) (pss_one (ps_ret (pe_or (pe_cmpR op_eq (pe_callB call_len_seq (by rfl) T.n_len (by decide +kernel) (pa_cons (pe_ix ix_list (pv 0) pe_int (fun _ _ => rfl)) pa_nil)) pe_int (nomark _)) (pe_one (pe_cmpR op_gt (pe_callB call_len_seq (by rfl) T.n_len (by decide +kernel) (pa_cons (pe_ix ix_list (pv 0) pe_int (fun _ _ => rfl)) pa_nil)) (C8.pe_gc (by rfl) T.g_MOST_IN_A_ROW) (nomark _))))))), ?rd⟩)
  case len => obtain ⟨t, w, rfl, _⟩ := h; rfl
  case rd =>
    obtain ⟨t, rows, rfl, hr, k⟩ := h
    have hr' := hr
    obtain ⟨as, e, q⟩ := hr
    have la := q.len
    have ln : ∀ σ : L2.St, σ[0]? = some (some (.ref t)) → Is (tCB (U.rLen K) (tCons (tVar 0) tNil)) σ H (.int ((rows.length : Nat) : Int)) := fun σ s0 => is_to (is_len (is_var s0) (SqL.of e)) (by rw [List.length_map, la])
    unfold wrong at k
    refine s_guard (isT_or (isT_t (is_eqI (ln _ rfl) is_c)) (fun _ => isT_op (ln _ rfl) is_c)) (fun hb => ?_) (fun hb => ?_)
    · have e1 : (decide (rows.length = 0) || decide (14 < rows.length)) = true := by
        simp only [Bool.or_eq_true, decide_eq_true_eq] at hb ⊢
        omega
      rw [e1, Bool.true_or] at k
      exact s_ret is_c k
    · have e1 : (decide (rows.length = 0) || decide (14 < rows.length)) = false := by
        simp only [Bool.or_eq_false_iff, decide_eq_false_iff_not] at hb ⊢
        omega
      have ne : rows ≠ [] := fun z => by
        rw [z] at hb
        exact absurd hb (by decide)
      rw [e1, Bool.false_or] at k
      have e2 : decide ((((rows.headD []).length : Nat) : Int) = 0) = decide ((rows.headD []).length = 0) := by
        by_cases z : (rows.headD []).length = 0
        · rw [decide_eq_true z, decide_eq_true (by omega)]
        · rw [decide_eq_false z, decide_eq_false (by omega)]
      have e3 : decide ((20 : Int) < (((rows.headD []).length : Nat) : Int)) = decide (20 < (rows.headD []).length) := by
        by_cases z : 20 < (rows.headD []).length
        · rw [decide_eq_true z, decide_eq_true (by omega)]
        · rw [decide_eq_false z, decide_eq_false (by omega)]
      rw [← e2, ← e3] at k
      exact s_ret (is_or (is_eqI (is_len0 T hr' (is_var rfl) ne) is_c) fun _ => is_op0 (is_len0 T hr' (is_var rfl) ne) is_c) k
theorem c_find_fault : C8.Cal P w K mg base 3 "find_fault" (spFault) [] := by
  obtain ⟨f, fd, F, b⟩ := T.d_find_fault
  refine C8.cal0 F b .nil sc_find_fault (fun vs H Q E h => ?len) (fun cdv A0 outer s H vs Q E hr h => ⟨_, (pss_cons (ps_set (i := 1) sc_find_fault.nd rfl (Or.inl rfl) (C8.pe_c (c_split_rows T) hr (by decide) (by rfl) (pa_cons (pv 0) pa_nil))) (pss_cons (ps_if (pt_val (C8.pe_c (c_has_strange_byte T) hr (by decide) (by rfl) (pa_cons (pv 0) pa_nil))) (pss_one (ps_ret (C8.pe_gc (by rfl) T.g_STRANGE_BYTE))) pss_nil) (pss_cons (ps_if (pt_val (C8.pe_c (c_has_uneven_rows T) hr (by decide) (by rfl) (pa_cons (pv 1) pa_nil))) (pss_one (ps_ret (C8.pe_gc (by rfl) T.g_UNEVEN_ROWS))) pss_nil) (pss_cons (ps_if (pt_val (C8.pe_c (c_has_wrong_size T) hr (by decide) (by rfl) (pa_cons (pv 1) pa_nil))) (pss_one (ps_ret (C8.pe_gc (by rfl) T.g_WRONG_SIZE))) pss_nil) (pss_cons (ps_if (pt_cmpR op_ne (pe_bm PySem.F.plainAttrs_list PySem.F.slot_list_count PySem.F.type_list_count mt_lcount (pv 0) (pa_cons (C8.pe_c (c_byte_of T) hr (by decide) (by rfl) (pa_cons (C8.pe_gc (by rfl) T.g_PLAYER) pa_nil)) pa_nil)) pe_int (nomark _)) (pss_one (ps_ret (C8.pe_gc (by rfl) T.g_NOT_ONE_PLAYER))) pss_nil) (pss_one (ps_ret pe_int))))))), ?rd⟩)
  case len => obtain ⟨t, w, rfl, _⟩ := h; rfl
  case rd =>
    obtain ⟨t, w, rfl, ht, hw, k⟩ := h
    have hrl := rows_len w
    refine s_seq (s_setCall (isA_cons (is_var rfl) isA_nil) ⟨t, w, rfl, ht, hw, fun H1 l sm hl hr => ?_⟩)
    unfold faultOf at k
    refine s_guardCall (isA_cons (is_var rfl) isA_nil) ⟨t, w, rfl, sm _ _ ht, hw, fun H2 sm2 => ?_⟩
    refine guard_in (fun hb => ?_) (fun hb => ?_)
    · rw [if_pos hb] at k
      exact s_ret is_c (k _ (sm.trans sm2))
    · rw [if_neg (by rw [hb]; decide)] at k
      refine s_guardCall (isA_cons (is_var rfl) isA_nil) ⟨l, rowsP w, rfl, hr.same sm2, by omega, fun H3 sm3 => ?_⟩
      have sm03 := (sm.trans sm2).trans sm3
      refine guard_in (fun hb => ?_) (fun hb => ?_)
      · rw [if_pos hb] at k
        exact s_ret is_c (k _ sm03)
      · rw [if_neg (by rw [hb]; decide)] at k
        refine s_guardCall (isA_cons (is_var rfl) isA_nil) ⟨l, rowsP w, rfl, (hr.same sm2).same sm3, ?_⟩
        refine guard_in (fun hb => ?_) (fun hb => ?_)
        · rw [if_pos hb] at k
          exact s_ret is_c (k _ sm03)
        · rw [if_neg (by rw [hb]; decide)] at k
          have hcnt : H3 t = some (.lst ((w.map fun (n : Nat) => (n : Int)).map V.int)) := by
            rw [sm03 _ _ ht, List.map_map]
            rfl
          have ec : (w.map fun (n : Nat) => (n : Int)).count (64 : Int) = w.count 64 := count_cast w 64
          refine s_guard (isT_t (is_neI (is_cnt (k := 64) (is_var rfl) (isA_cons (is_call (v := .int 64) (isA_cons is_c isA_nil) fun Q' E' q => ⟨7, rfl, by decide, q⟩) isA_nil) hcnt) is_c)) (fun hb => ?_) (fun hb => ?_)
          · rw [ec] at hb
            have h4 : w.count 64 ≠ 1 := by
              simp only [Bool.not_eq_true', decide_eq_false_iff_not] at hb
              omega
            rw [if_pos h4] at k
            exact s_ret is_c (k _ sm03)
          · rw [ec] at hb
            have h4 : ¬ w.count 64 ≠ 1 := by
              simp only [Bool.not_eq_false', decide_eq_true_eq] at hb
              omega
            rw [if_neg h4] at k
            exact s_ret is_c (k _ sm03)
end
end G

set_option Elab.async false
set_option linter.all false
set_option maxRecDepth 100000
set_option maxHeartbeats 4000000
namespace G
open PySem PySem.Spec PyProof.Rows L2
open Ge13 (at_ put gems beside cellTo Marks goTo playerTurn stoneTurn monsterTurn)
open Gm
open U

/-- what gives v in a grown heap -/
def IsG (te : TE) (σ : L2.St) (H : Hp) (v : V) : Prop := ∀ Q : VK, (∀ H', Same H H' → Q v H') → te σ H Q
theorem IsG.of {te : TE} {σ : L2.St} {H : Hp} {v : V} (h : Is te σ H v) : IsG te σ H v := fun Q q => h Q (q H (Same.refl H))
theorem lcLG {K : PySem.W.Frag} {σ : L2.St} {H : Hp} {tl te : TE} {p : Addr} {xs : List V} {s : Nat} {Q : VK} {g : V → V} (hl : Is tl σ H (.ref p)) (h : SqL K H p xs) (hn : xs.length ≤ 100000)
    (he : ∀ x ∈ xs, ∀ H', Same H H' → IsG te ((σ.set s none).set s (some x)) H' (g x)) (k : ∀ D H', H D = none → Same H H' → H' D = some (.lst (xs.map g)) → Q (.ref D) H') : tLc (iList K tl) (gName s) tYes te [s] σ H Q := by
  refine hl _ ⟨p, rfl, ⟨xs, h⟩, fun D hD => ?_⟩
  refine lc_list (K := K) (a := p) (xs := xs) (fun i H' => Same H H' ∧ H' D = some (.lst ((xs.take i).map g))) ⟨same_new hD, upd_same⟩ (fun i H' _ e => e.1.seq h) ?_ ?_
  · rintro i x H' hi ⟨sm, hDD⟩
    refine ⟨wipe_one, ?_⟩
    dsimp only [tYes]
    rw [if_pos rfl]
    refine he x (List.mem_of_getElem? hi) _ sm _ fun H2 sm2 => ⟨_, sm2 _ _ hDD, ?_, ?_, ?_⟩
    · have := (List.getElem?_eq_some_iff.mp hi).1
      have e1 : ((xs.take i).map g).length = i := by rw [List.length_map, List.length_take]; omega
      rw [e1]
      exact Nat.lt_trans (Nat.lt_of_lt_of_le this hn) (by decide)
    · intro b o hb
      rw [upd_ne (ne_of_none hb hD)]
      exact sm2 _ _ (sm _ _ hb)
    · rw [upd_same, take_snoc hi, List.map_append]
      rfl
  · rintro H' ⟨sm, hDD⟩
    rw [List.take_length] at hDD
    exact k D H' hD sm hDD
/-- xs.extend([.. for x in ys]) -/
theorem s_extG {K : PySem.W.Frag} {σ : L2.St} {H : Hp} {D : Ends} {te tl te2 : TE} {s : Nat} {g : V → V} {l p : Addr} {xs ys : List V} (h : Is te σ H (.ref l)) (hl : H l = some (.lst xs)) (hp : Is tl σ H (.ref p)) (hl2 : SqL K H p ys)
    (hn : ys.length ≤ 100000) (he : ∀ x ∈ ys, ∀ H', Same H H' → IsG te2 ((σ.set s none).set s (some x)) H' (g x)) (hz : xs.length + ys.length ≤ sizeLine)
    (k : ∀ H1, (∀ b o, H b = some o → b ≠ l → H1 b = some o) → H1 l = some (.lst (xs ++ ys.map g)) → D.nx σ H1) :
    tDrop (tBM K "list" rExtend te (tCons (tLc (iList K tl) (gName s) tYes te2 [s]) tNil)) D σ H :=
  h _ ⟨.inl ⟨rfl, _, SqL.of hl⟩, lcLG hp hl2 hn he fun D' H1 hD sm hDD => by
    have nl : l ≠ D' := ne_of_none hl hD
    refine ⟨l, D', xs, _, rfl, rfl, sm _ _ hl, hDD, by rw [List.length_map]; exact hz, k _ (fun b o hb nb => ?_) upd_same⟩
    rw [upd_ne nb]
    exact sm _ _ hb⟩
/-- xs.extend(ys) -/
theorem s_ext {K : PySem.W.Frag} {σ : L2.St} {H : Hp} {D : Ends} {te tl : TE} {l p : Addr} {xs ys : List V} (h : Is te σ H (.ref l)) (hl : H l = some (.lst xs)) (hp : Is tl σ H (.ref p)) (hl2 : H p = some (.lst ys)) (hz : xs.length + ys.length ≤ sizeLine)
    (k : D.nx σ (upd H l (.lst (xs ++ ys)))) : tDrop (tBM K "list" rExtend te (tCons tl tNil)) D σ H := h _ ⟨.inl ⟨rfl, _, SqL.of hl⟩, hp _ ⟨l, p, xs, ys, rfl, rfl, hl, hl2, hz, k⟩⟩
/-- if t or any([.. for x in xs]): .. -/
theorem s_guardOr {K : PySem.W.Frag} {σ : L2.St} {H : Hp} {D : Ends} {t1 : TT} {tl te : TE} {p : Addr} {xs : List V} {s : Nat} {g : V → Bool} {b1 : Bool} {pp u : TS} (h1 : IsT t1 σ H b1) (hl : Is tl σ H (.ref p)) (h : SqL K H p xs) (hn : xs.length ≤ 100000)
    (he : ∀ x ∈ xs, ∀ H', Same H H' → Is te ((σ.set s none).set s (some x)) H' (.bl (g x))) (k1 : ∀ H', Same H H' → (b1 || xs.any g) = true → pp { D with nx := u D } σ H') (k2 : ∀ H', Same H H' → (b1 || xs.any g) = false → u D σ H') :
    tSeq (tIfS (tOr t1 (tB (tCB (rAny K) (tCons (tLc (iList K tl) (gName s) tYes te [s]) tNil)))) pp tNext) u D σ H :=
  h1 _ (by
    cases b1 with
    | true => exact iteT (iteT (k1 H (Same.refl H) rfl))
    | false =>
      refine iteF (anyL hl h hn he fun H' sm => ⟨_, rfl, ?_⟩)
      cases e : xs.any g with
      | true => exact iteT (k1 H' sm (by rw [e]; rfl))
      | false => exact iteF (k2 H' sm (by rw [e]; rfl)))
def spThing : Sp := fun vs H Q _ => ∃ b : Nat, vs = [iv b] ∧ Ge13.signs.contains b = true ∧ ∀ H', Same H H' → Q (iv (idx b)) H'
def fnd (b i : Nat) : List V := ((List.range i).filter fun j => Ge13.signs.getD j 0 == b).map iv
theorem fnd_succ (b i : Nat) : fnd b (i + 1) = fnd b i ++ (if Ge13.signs.getD i 0 = b then [iv i] else []) := by
  unfold fnd
  rw [List.range_succ, List.filter_append, List.map_append]
  congr 1
  by_cases h : Ge13.signs.getD i 0 = b
  · rw [if_pos h, List.filter_cons, if_pos (by rw [h]; exact beq_self_eq_true b)]
    rfl
  · rw [if_neg h, List.filter_cons, if_neg (by rw [beq_eq_false_iff_ne.mpr h]; decide)]
    rfl
theorem fnd_all {b : Nat} (h : Ge13.signs.contains b = true) : fnd b 13 = [iv (idx b)] := by
  simp only [Ge13.signs, List.contains_cons, List.contains_nil, Bool.or_eq_true, beq_iff_eq, Bool.or_false] at h
  rcases h with rfl | rfl | rfl | rfl | rfl | rfl | rfl | rfl | rfl | rfl | rfl | rfl | rfl <;> decide
theorem signs_get {i : Nat} {x : V} (h : (Ge13.signs.map iv)[i]? = some x) : i < 13 ∧ x = iv (Ge13.signs.getD i 0) := by
  rw [List.getElem?_map] at h
  cases e : Ge13.signs[i]? with
  | none => rw [e] at h; cases h
  | some b =>
    rw [e] at h
    refine ⟨(List.getElem?_eq_some_iff.mp e).1, ?_⟩
    rw [List.getD_eq_getElem?_getD, e]
    exact (Option.some.inj h).symm
section
variable {P : Program} {w : World} {K : PySem.W.Frag} {mg : Str → Option Value} {base : Heap} {a : Ad} (T : Txt K mg a)
include T

theorem c_thing_of : C8.Cal P w K mg base 1 "thing_of" (spThing) [] := by
  obtain ⟨f, fd, F, b⟩ := T.d_thing_of
  refine C8.cal0 F b .nil sc_thing_of (fun vs H Q E h => ?len) (fun cdv A0 outer s H vs Q E hr h => ⟨_, (pss_cons (ps_setLc (i := 1) (own := [("thing", 2), ("known", 3)]) (g := gTup K 2 (gCons (gName 2) (gCons (gName 3) gNil))) (tt := tTest (tOp rEq (tVar 3) (tVar 0))) (te := tVar 2) (by rfl) sc_thing_of.nd rfl rfl (sw_true rfl rfl rfl (by decide +kernel)) (U.pi_enumT (by rfl) T.n_enumerate (pa_cons (C8.pe_gc (by rfl) T.g_BYTES) pa_nil)) (blkOk_by (own := [("thing", 2), ("known", 3)]) (N := nm_thing_of) (sc := C8.fnScope s_thing_of) (by decide +kernel)) (fun _ _ _ _ _ => (pg_tup rfl (pgs_cons (pg_name (i := 2) sc_thing_of.nd rfl (Or.inl rfl)) (pgs_cons (pg_name (i := 3) sc_thing_of.nd rfl (Or.inl rfl)) pgs_nil)))) (fun _ _ _ _ _ => (pts_one (pt_cmpR op_eq (pv 3) (pv 0) (nomark _)))) (fun _ _ _ _ _ => (pv 2))) (pss_one (ps_ret (pe_ix ix_list (pv 1) pe_int (fun _ _ => rfl))))), ?rd⟩)
  case len => obtain ⟨b, rfl, _⟩ := h; rfl
  case rd =>
    obtain ⟨n, rfl, hn, k⟩ := h
    refine s_seq ?_
    have hq : ∀ H, SqT K H a.aBYTES (Ge13.signs.map iv) := T.q_BYTES
    refine ⟨a.aBYTES, _, rfl, hq H, fun D hD => ?_⟩
    refine ⟨fun i m H' => m = 13 - i ∧ i ≤ 13 ∧ Same H H' ∧ H' D = some (.lst (fnd n i)), ⟨13, rfl, by decide, same_new hD, upd_same⟩, ?_⟩
    rintro i m H1 ⟨rfl, hi, sm, hDD⟩
    by_cases h13 : i = 13
    · subst h13
      refine .inl ⟨⟨_, hq H1, rfl⟩, ?_⟩
      rw [fnd_all hn] at hDD
      refine s_ret (is_ixL (is_var rfl) is_c (SqL.of hDD) (atI_nat (j := 0) rfl)) (k H1 sm)
    · have hlt : i < 13 := by omega
      obtain ⟨x0, hx0⟩ : ∃ x, (Ge13.signs.map iv)[i]? = some x := ⟨_, List.getElem?_eq_getElem (by show i < 13; exact hlt)⟩
      refine .inr ⟨⟨_, _, hq H1, hx0⟩, fun H' => Same H H' ∧ H' D = some (.lst (fnd n (i + 1))), fun H' ⟨s1, s2⟩ => ⟨13 - (i + 1), by omega, rfl, by omega, s1, s2⟩, ?_⟩
      rintro x H2 ⟨t, y, rfl, ht, rfl, hy⟩
      obtain ⟨_, ey⟩ := signs_get (hy _ (hq H1))
      subst ey
      have smt := same_new (o := .tup [.int ((i : Nat) : Int), iv (Ge13.signs.getD i 0)]) ht
      refine ⟨t, _, rfl, SqT.of upd_same, rfl, _, _, rfl, _, _, rfl, rfl, rfl, ?_⟩
      refine (isT_t (is_eqI (is_var (v := iv (Ge13.signs.getD i 0)) rfl) (is_var (v := iv n) rfl))) _ ?_
      have hD2 := smt _ _ hDD
      rw [fnd_succ]
      by_cases e : Ge13.signs.getD i 0 = n
      · rw [decide_eq_true (by omega), if_pos rfl, if_pos e]
        refine (is_var (v := iv i) rfl) _ ⟨_, hD2, ?_, ?_, upd_same⟩
        · unfold fnd
          rw [List.length_map]
          refine Nat.lt_of_le_of_lt (Nat.le_trans (List.length_filter_le _ _) (by rw [List.length_range]; exact hi)) (by decide)
        · intro b o hb
          rw [upd_ne (ne_of_none hb hD)]
          exact smt _ _ (sm _ _ hb)
      · rw [decide_eq_false (by omega), if_neg (by decide), if_neg e, List.append_nil]
        exact ⟨sm.trans smt, hD2⟩
end
end G

set_option Elab.async false
set_option linter.all false
set_option maxRecDepth 100000
set_option maxHeartbeats 4000000
namespace G
open PySem PySem.Spec PyProof.Rows L2
open Ge13 (at_ put gems beside cellTo Marks goTo playerTurn stoneTurn monsterTurn)
open Gm
open U

theorem rep_wall (n : Nat) : (List.replicate (((n : Nat) : Int) + 2).toNat [V.int 2]).flatten = (wallRow n).map iv := by
  have e : (((n : Nat) : Int) + 2).toNat = n + 2 := by omega
  rw [e, wallRow, List.map_replicate]
  generalize n + 2 = m
  induction m with
  | zero => rfl
  | succ m ih => rw [List.replicate_succ, List.replicate_succ, List.flatten_cons, ih]; rfl
/-- the places made of the first rows -/
def plTo (n : Nat) (rows : List (List Nat)) (i : Nat) : List Nat := wallRow n ++ ((rows.take i).map fun r => rimRow (r.map idx)).flatten
theorem plTo_succ {n : Nat} {rows : List (List Nat)} {i : Nat} {r : List Nat} (h : rows[i]? = some r) : plTo n rows (i + 1) = plTo n rows i ++ (2 :: (r.map idx ++ [2])) := by
  unfold plTo
  rw [take_snoc h, List.map_append, List.flatten_append, List.append_assoc]
  simp [rimRow]
theorem plTo_len {w : List Nat} (g : Good w) : ∀ i, i ≤ (rowsP w).length → (plTo ((rowsP w).headD []).length (rowsP w) i).length = (i + 1) * (((rowsP w).headD []).length + 2)
  | 0, _ => by simp [plTo, wallRow]
  | i + 1, h => by
    have hi : i < (rowsP w).length := by omega
    have hr := g.ev _ (List.getElem_mem hi)
    rw [plTo_succ (List.getElem?_eq_getElem hi), List.length_append, plTo_len g i (by omega), List.length_cons, List.length_append, List.length_map, hr, Nat.add_mul (i + 1) 1]
    simp
theorem plTo_all {w : List Nat} (h : faultOf w = 0) : plTo ((rowsP w).headD []).length (rowsP w) (rowsP w).length ++ wallRow ((rowsP w).headD []).length = rim (caveOf w) := by
  rw [caveOf_rim h]
  unfold plTo rimL
  rw [List.take_length, List.map_map]
  rfl
def spRead (K : PySem.W.Frag) (a : Ad) : Sp := fun vs H Q _ => ∃ (t : Addr) (w : List Nat), vs = [.ref t] ∧ H t = some (.lst (w.map iv)) ∧ w.length ≤ 1000 ∧ faultOf w = 0 ∧
  ∀ H' cv pl, Same H H' → CavAt K a H' cv pl (caveOf w) → H cv = none → H pl = none → Q (.ref cv) H'
theorem free_of {H H' : Hp} {p : Addr} (s : Same H H') (h : H' p = none) : H p = none := s.free h
def ixV (v : V) : V := iv (idx (ivN v))
theorem ixV_map (l : List Nat) : (l.map iv).map ixV = (l.map idx).map iv := by
  rw [List.map_map, List.map_map]
  apply List.map_congr_left
  intro n _
  show iv (idx (ivN (iv n))) = iv (idx n)
  rw [ivN_iv]
section
variable {K : PySem.W.Frag} {σ : L2.St} {H : Hp} {D : Ends} {te : TE} {i : Nat} {p : Addr} {ys : List V}
theorem s_setList (h : Is te σ H (.ref p)) (hl : SqL K H p ys) (k : ∀ l, H l = none → D.nx (σ.set i (some (.ref l))) (upd H l (.lst ys))) : tAsg (tCB (rListOf K) (tCons te tNil)) (gName i) D σ H := h _ ⟨p, ys, rfl, .inl hl, k⟩
end
section
variable {P : Program} {w : World} {K : PySem.W.Frag} {mg : Str → Option Value} {base : Heap} {a : Ad} (T : Txt K mg a)
include T

theorem c_read_cave : C8.Cal P w K mg base 3 "read_cave" (spRead K a) [] := by
  obtain ⟨f, fd, F, b⟩ := T.d_read_cave
  refine C8.cal0 F b .nil sc_read_cave (fun vs H Q E h => ?len) (fun cdv A0 outer s H vs Q E hr h => ⟨_, (pss_cons (ps_set (i := 1) sc_read_cave.nd rfl (Or.inl rfl) (C8.pe_c (c_split_rows T) hr (by decide) (by rfl) (pa_cons (pv 0) pa_nil))) (pss_cons (ps_set (i := 2) sc_read_cave.nd rfl (Or.inl rfl) (pe_op op_rep (pe_lst (pa_cons (C8.pe_gc (by rfl) T.g_WALL) pa_nil)) (pe_op op_add (pe_callB call_len_seq (by rfl) T.n_len (by decide +kernel) (pa_cons (pe_ix ix_list (pv 1) pe_int (fun _ _ => rfl)) pa_nil)) pe_int))) (pss_cons (ps_set (i := 3) sc_read_cave.nd rfl (Or.inl rfl) (pe_callTy call_list_of (by rfl) T.n_list (by decide +kernel) (pa_cons (pv 2) pa_nil))) (pss_cons (ps_for PassesOwn.never rfl (pi_list (pv 1)) (pg_name (i := 4) sc_read_cave.nd rfl (Or.inl rfl)) (pss_cons (ps_expr (pe_bm PySem.F.plainAttrs_list PySem.F.slot_list_append PySem.F.type_list_append mt_append (pv 3) (pa_cons (C8.pe_gc (by rfl) T.g_WALL) pa_nil))) (pss_cons (ps_expr (pe_bm PySem.F.plainAttrs_list PySem.F.slot_list_extend PySem.F.type_list_extend mt_extend (pv 3) (pa_cons (pe_lc (own := [("byte", 5)]) (g := gName 5) (tt := tYes) rfl sc_read_cave.nd (pi_list (pv 4)) (blkOk_by (own := [("byte", 5)]) (N := nm_read_cave) (sc := C8.fnScope s_read_cave) (by decide +kernel)) (fun _ _ _ _ _ => (pg_name (i := 5) sc_read_cave.nd rfl (Or.inl rfl))) (fun _ _ _ _ _ => pts_nil) (fun _ _ _ _ _ => (C8.pe_c (c_thing_of T) hr (by decide) (by rfl) (pa_cons (pv 5) pa_nil)))) pa_nil))) (pss_one (ps_expr (pe_bm PySem.F.plainAttrs_list PySem.F.slot_list_append PySem.F.type_list_append mt_append (pv 3) (pa_cons (C8.pe_gc (by rfl) T.g_WALL) pa_nil))))))) (pss_cons (ps_expr (pe_bm PySem.F.plainAttrs_list PySem.F.slot_list_extend PySem.F.type_list_extend mt_extend (pv 3) (pa_cons (pv 2) pa_nil))) (pss_one (ps_ret (C8.pe_mk (c_Cave T) hr (by decide) (by rfl) (pa_cons (pe_callB call_len_seq (by rfl) T.n_len (by decide +kernel) (pa_cons (pe_ix ix_list (pv 1) pe_int (fun _ _ => rfl)) pa_nil)) (pa_cons (pe_callB call_len_seq (by rfl) T.n_len (by decide +kernel) (pa_cons (pv 1) pa_nil)) (pa_cons (pv 3) pa_nil))))))))))), ?rd⟩)
  case len => obtain ⟨t, w, rfl, _⟩ := h; rfl
  case rd =>
    obtain ⟨t, w, rfl, ht, hw, hf, k⟩ := h
    have gd := good_of hf
    have ne : rowsP w ≠ [] := fun z => by have := gd.h1; rw [z] at this; cases this
    have n20 := gd.n20
    have h14 := gd.h14
    generalize hn : ((rowsP w).headD []).length = n at n20
    have is2 : ∀ σ H l, RowsAt H l (rowsP w) → σ[1]? = some (some (.ref l)) → Is (tCB (U.rLen K) (tCons (tOp (rIxL K) (tVar 1) (tC (.int 0))) tNil)) σ H (iv n) := fun σ H l hr s1 => by
      rw [← hn]
      exact is_len0 T hr (is_var s1) ne
    refine s_seq (s_setCall (isA_cons (is_var rfl) isA_nil) ⟨t, w, rfl, ht, hw, fun H1 l sm hl hr => ?_⟩)
    refine s_seq (s_setRep (n := ((n : Nat) : Int) + 2) (isA_cons is_c isA_nil) (by show 1 ≤ 1; decide) (fun H' s' => is_op0 (is2 _ _ l (hr.same s') rfl) is_c) ⟨by omega, by omega⟩ fun rm H2 hrm sm2 hrm2 => ?_)
    rw [rep_wall] at hrm2
    have hr2 := hr.same sm2
    refine s_seq (s_setList (is_var rfl) (SqL.of hrm2) fun pl hpl => ?_)
    have smp : Same H (upd H2 pl (.lst ((wallRow n).map iv))) := (sm.trans sm2).trans (same_new hpl)
    have sm2p : Same H2 (upd H2 pl (.lst ((wallRow n).map iv))) := same_new hpl
    obtain ⟨as, hla, hpr⟩ := hr2
    have la := hpr.len
    refine s_seq (s_forList (is_var rfl) (SqL.of (sm2p _ _ hla)) ?_)
    refine ⟨fun i σ H' => (∃ u : Option V, σ = [some (.ref t), some (.ref l), some (.ref rm), some (.ref pl), u, none]) ∧ Same H2 H' ∧ H' pl = some (.lst ((plTo n (rowsP w) i).map iv)), ?_, ?_, ?_, ?_⟩
    · refine ⟨⟨none, rfl⟩, sm2p, ?_⟩
      rw [upd_same]
      simp [plTo]
    · rintro i σ H' _ ⟨_, s1, _⟩
      exact SqL.of (s1 _ _ hla)
    · rintro i x σ H3 hi ⟨⟨u, rfl⟩, s3, hp3⟩
      have hil : i < (rowsP w).length := by
        have := (List.getElem?_eq_some_iff.mp hi).1
        rw [List.length_map, la] at this
        exact this
      obtain ⟨p, h1, h2⟩ := hpr.get (i := i) (List.getElem?_eq_getElem hil)
      have ex : x = .ref p := by
        rw [List.getElem?_map, h1] at hi
        exact (Option.some.inj hi).symm
      subst ex
      have len3 : (plTo n (rowsP w) i).length ≤ 352 := by
        have := plTo_len gd i (by omega)
        rw [hn] at this
        rw [this]
        exact Nat.le_trans (Nat.mul_le_mul (by omega : i + 1 ≤ 16) (by omega : n + 2 ≤ 22)) (by decide)
      have npp : p ≠ pl := ne_of_none h2 hpl
      have rlen : (rowsP w)[i].length = n := by rw [← hn]; exact gd.ev _ (List.getElem_mem hil)
      refine s_seq (s_append (is_var rfl) (isA_cons is_c isA_nil) hp3 (by rw [List.length_map]; exact small1000 (by omega)) ?_)
      have hp4 : upd H3 pl (.lst ((plTo n (rowsP w) i).map iv ++ [.int 2])) pl = some (.lst ((plTo n (rowsP w) i).map iv ++ [.int 2])) := upd_same
      have hpp4 : upd H3 pl (.lst ((plTo n (rowsP w) i).map iv ++ [.int 2])) p = some (.lst (((rowsP w)[i]).map iv)) := by rw [upd_ne npp]; exact s3 _ _ h2
      have s4 : Same H2 (upd H3 pl (.lst ((plTo n (rowsP w) i).map iv ++ [.int 2]))) := fun b o hb => by rw [upd_ne (ne_of_none hb hpl)]; exact s3 _ _ hb
      generalize upd H3 pl (.lst ((plTo n (rowsP w) i).map iv ++ [.int 2])) = H4 at hp4 hpp4 s4
      refine s_seq (s_extG (g := ixV) (is_var rfl) hp4 (is_var rfl) (SqL.of hpp4) (by rw [List.length_map, rlen]; omega) ?_ ?_ ?_)
      · intro x hx H' sm'
        obtain ⟨b, hb, rfl⟩ := List.mem_map.mp hx
        have hk := gd.kn _ (List.getElem_mem hil) b hb
        show IsG _ _ _ (iv (idx (ivN (iv b))))
        rw [ivN_iv]
        intro Q' q
        exact (isA_cons (is_var rfl) isA_nil) _ ⟨b, rfl, hk, q⟩
      · rw [List.length_append, List.length_map, List.length_map, rlen]
        exact Nat.le_trans (by show _ ≤ 1000; simp; omega) (by decide)
      · intro H5 f5 hp5
        rw [ixV_map] at hp5
        refine s_append (is_var rfl) (isA_cons is_c isA_nil) hp5 ?_ ⟨⟨_, rfl⟩, fun b o hb => ?_, ?_⟩
        · rw [List.length_append, List.length_append, List.length_map, List.length_map, List.length_map, rlen]
          exact small1000 (by simp; omega)
        · have nb := ne_of_none hb hpl
          rw [upd_ne nb]
          exact f5 _ _ (s4 _ _ hb) nb
        · rw [upd_same, plTo_succ (List.getElem?_eq_getElem hil)]
          simp
          rfl
    · rintro σ H3 ⟨⟨u, rfl⟩, s3, hp3⟩
      rw [List.length_map, la] at hp3
      have npr : rm ≠ pl := ne_of_none hrm2 hpl
      refine s_seq (s_ext (is_var rfl) hp3 (is_var rfl) (s3 _ _ hrm2) ?_ ?_)
      · rw [List.length_map, List.length_map]
        have := plTo_len gd (rowsP w).length (Nat.le_refl _)
        rw [hn] at this
        rw [this]
        refine Nat.le_trans (Nat.add_le_add (Nat.mul_le_mul (by omega : (rowsP w).length + 1 ≤ 15) (by omega : n + 2 ≤ 22)) (by simp [wallRow]; omega : (wallRow n).length ≤ 22)) (by decide)
      · have s4 : Same H2 (upd H3 pl (.lst ((plTo n (rowsP w) (rowsP w).length).map iv ++ (wallRow n).map iv))) := fun b o hb => by rw [upd_ne (ne_of_none hb hpl)]; exact s3 _ _ hb
        have hp4 : upd H3 pl (.lst ((plTo n (rowsP w) (rowsP w).length).map iv ++ (wallRow n).map iv)) pl = some (.lst (plc (caveOf w))) := by
          have z := plTo_all hf
          rw [hn] at z
          rw [upd_same, ← List.map_append, z]
          rfl
        generalize upd H3 pl (.lst ((plTo n (rowsP w) (rowsP w).length).map iv ++ (wallRow n).map iv)) = H4 at s4 hp4
        have hr4 : RowsAt H4 l (rowsP w) := ⟨as, s4 _ _ hla, hpr.same s4⟩
        refine s_retMake (a_cons (is2 _ _ l hr4 rfl) (a_cons (is_to (is_len (is_var rfl) (SqL.of (s4 _ _ hla))) (j := (((rowsP w).length : Nat) : Int)) (by rw [List.length_map, la])) (a_cons (is_var rfl) (a_nil ?_))))
        refine mk_in (mk := mkCave) (us := [iv n, iv (rowsP w).length, .ref pl]) (fs := cavF (caveOf w).w (caveOf w).h pl) ?_ fun x H5 hx sm5 ob5 => ?_
        · rw [← hn]
          rfl
        · have sH2 : Same H H2 := sm.trans sm2
          exact k H5 x pl ((sH2.trans s4).trans sm5) ⟨ob5, sm5 _ _ hp4⟩ ((sH2.trans s4).free hx) (sH2.free hpl)
end
end G

set_option Elab.async false
set_option linter.all false
set_option maxRecDepth 100000
set_option maxHeartbeats 4000000
namespace G
open PySem PySem.Spec PyProof.Rows L2
open Ge13 (at_ put gems beside cellTo Marks goTo playerTurn stoneTurn monsterTurn)
open Gm
open U

/-- given: a text -/
def txtA : List V → Hp → Option Ge13.Call → Prop := fun us H c => ∃ (t : Addr) (w : List Nat), us = [.ref t] ∧ H t = some (.lst (w.map iv)) ∧ w.length ≤ 1000 ∧ c = some (.cave w)
def bigV (v : V) : Bool := match v with
  | .int n => decide (255 < n)
  | _ => false
theorem bigV_any (w : List Nat) : (w.map iv).any bigV = !(w.all fun c => decide (c ≤ 255)) := by
  induction w with
  | nil => rfl
  | cons b w ih =>
    rw [List.map_cons, List.any_cons, ih, List.all_cons, Bool.not_and]
    congr 1
    show decide ((255 : Int) < (b : Int)) = !decide (b ≤ 255)
    by_cases e : b ≤ 255
    · rw [decide_eq_true e, decide_eq_false (by omega)]
      rfl
    · rw [decide_eq_false e, decide_eq_true (by omega)]
      rfl
/-- a new game at its addresses -/
theorem newGameAt {K : PySem.W.Frag} {a : Ad} {H : Hp} {x so l : Addr} {t : SA} {c : Ge13.Cave} {tp : Nat} (h1 : Ob K H x a.cGame (gamF so l 0 tp 0)) (h2 : H l = some (.lst [])) (h3 : H so = some (.lst [.ref t.st])) (h4 : Ob K H t.st a.cStanding (stdF t.cv 0 0)) (h5 : CavAt K a H t.cv t.pl c)
    (ho : c.over = 0) (hp : c.points = 0) (n0 : l ≠ so) (nf : ∀ b, b = x ∨ b = so ∨ b = l → ¬ Froz [t] b) : GameAt K a H ⟨x, so, l, [t]⟩ { Ge13.game0 c with step := tp } where
  g := h1
  l := h2
  so := h3
  len := rfl
  st := fun i s e => by
    match i, e with
    | 0, e =>
      cases e
      refine ⟨?_, h5⟩
      show Ob K H t.st a.cStanding (stdF t.cv c.over c.points)
      rw [ho, hp]
      exact h4
    | i + 1, e => cases e
  nw := rfl
  n0 := n0
  nf := nf
/-- the parts of a new game are none of its cave's -/
theorem new_nf {H H' : Hp} {x so l : Addr} {t : SA} {C d1 : Addr} {fs : List (Str × V)} {xs ys : List V} (hx : t.st ≠ x) (d : ∀ b, b = x ∨ b = so ∨ b = l → H b = none) (lv : ∀ b, b = t.cv ∨ b = t.pl → ∃ o, H b = some o) (e : H' t.st = some (.ins C d1 fs)) (e1 : H' so = some (.lst xs)) (e2 : H' l = some (.lst ys)) : ∀ b, b = x ∨ b = so ∨ b = l → ¬ Froz [t] b := by
  rintro b hb ⟨t', ht, p⟩
  cases List.mem_singleton.mp ht
  rcases p with rfl | p
  · rcases hb with z | z | z
    · exact hx z
    · rw [z, e1] at e
      cases e
    · rw [z, e2] at e
      cases e
  · exact dead (d b hb) (lv b p)
def spSession (K : PySem.W.Frag) (a : Ad) : Sp := fun vs H Q _ => ∃ (p dx : Addr), vs = [.ref p] ∧ H p = some (.ins a.cSession dx []) ∧
  ∀ H' d A, Ob K H' p a.cSession (sesF A.g d) → H' d = some (.dK []) → GameAt K a H' A Ge13.init.game → New H A → (∀ b, Froz A.ss b → H b = none) → H d = none → SameX p H H' → Q .non H'
theorem first_fault : faultOf [35, 35, 35, 10, 35, 64, 35, 10, 35, 35, 35, 10] = 0 := by decide
theorem first_cave : caveOf [35, 35, 35, 10, 35, 64, 35, 10, 35, 35, 35, 10] = Ge13.cave0 := by decide
section
variable {K : PySem.W.Frag} {σ : L2.St} {H : Hp} {D : Ends} {t : L2.TA} {sp : Sp} {dvs vs : List V} {E : XK} {ta te : TE} {t' : L2.TA} {Q : List V → Hp → Prop}
theorem a_callL {p : Addr} {ys : List V} (h : Is te σ H (.ref p)) (hl : SqT K H p ys) (k : ∀ l, H l = none → sp [.ref l] (upd H l (.lst ys)) (fun y H1 => t' σ H1 fun xs H2 => Q (y :: xs) H2) E) : tCons (tCall sp [] E (tCons (tCB (rListOf K) (tCons te tNil)) tNil)) t' σ H Q := h _ ⟨p, ys, rfl, .inr hl, k⟩
end
section
variable {P : Program} {w : World} {K : PySem.W.Frag} {mg : Str → Option Value} {base : Heap} {a : Ad} (T : Txt K mg a)
include T

theorem c_answer_cave : C8.Cal P w K mg base 5 "answer_cave" (spAns K a txtA) [] := by
  obtain ⟨f, fd, F, b⟩ := T.d_answer_cave
  refine C8.cal0 F b .nil sc_answer_cave (fun vs H Q E h => ?len) (fun cdv A0 outer s H vs Q E hr h => ⟨_, (pss_cons (ps_if (PW.pt (pw_or (pt_cmpR op_gt (pe_callB call_len_seq (by rfl) T.n_len (by decide +kernel) (pa_cons (pv 1) pa_nil)) (C8.pe_gc (by rfl) T.g_MOST_BYTES) (nomark _)) (pw_or1 (pt_val (pe_callB (cr_any rfl) (by rfl) T.n_any (by decide +kernel) (pa_cons (pe_lc (own := [("byte", 4)]) (g := gName 4) (tt := tYes) rfl sc_answer_cave.nd (pi_list (pv 1)) (blkOk_by (own := [("byte", 4)]) (N := nm_answer_cave) (sc := C8.fnScope s_answer_cave) (by decide +kernel)) (fun _ _ _ _ _ => (pg_name (i := 4) sc_answer_cave.nd rfl (Or.inl rfl))) (fun _ _ _ _ _ => pts_nil) (fun _ _ _ _ _ => (pe_cmpR op_gt (pv 4) (C8.pe_gc (by rfl) T.g_MOST_BYTE) (nomark _)))) pa_nil)))))) (pss_one (ps_ret (C8.pe_c (c_refuse T) hr (by decide) (by rfl) (pa_cons (C8.pe_gc (by rfl) T.g_BEYOND_BOUNDS) pa_nil)))) pss_nil) (pss_cons (ps_set (i := 2) sc_answer_cave.nd rfl (Or.inl rfl) (C8.pe_c (c_find_fault T) hr (by decide) (by rfl) (pa_cons (pv 1) pa_nil))) (pss_cons (ps_if (pt_cmpR op_gt (pv 2) pe_int (nomark _)) (pss_one (ps_ret (C8.pe_c (c_refuse T) hr (by decide) (by rfl) (pa_cons (pe_op op_add (C8.pe_gc (by rfl) T.g_FAULT) (pv 2)) pa_nil)))) pss_nil) (pss_cons (ps_set (i := 3) sc_answer_cave.nd rfl (Or.inl rfl) (C8.pe_c (c_read_cave T) hr (by decide) (by rfl) (pa_cons (pv 1) pa_nil))) (pss_cons (ps_fld (pv 0) (C8.pe_mk (c_Game T) hr (by decide) (by rfl) (pa_cons (pv 3) (pa_cons (pe_fld (pe_fld (pv 0) rfl) rfl) pa_nil))) rfl) (pss_one (ps_ret (pe_op op_cat (C8.pe_c (c_how_it_stands T) hr (by decide) (by rfl) (pa_cons (pe_fld (pv 0) rfl) pa_nil)) (pe_lst (pa_cons (pe_fld (pv 3) rfl) (pa_cons (pe_fld (pv 3) rfl) pa_nil))))))))))), ?rd⟩)
  case len =>
    obtain ⟨s, d, A, g, N, R, us, c, rfl, ⟨t, w, rfl, _⟩, _⟩ := h
    rfl
  case rd =>
    obtain ⟨s, d, A, g, N, R, us, c, rfl, ⟨t, w, rfl, ht, hw, ec⟩, h, hv, hN, hap, k⟩ := h
    cases ec
    have ln : Is (tCB (U.rLen K) (tCons (tVar 1) tNil)) [some (.ref s), some (.ref t), none, none, none] H (.int ((w.length : Nat) : Int)) := is_to (is_len (is_var rfl) (SqL.of ht)) (by rw [List.length_map])
    refine s_guardOr (g := bigV) (isT_op ln is_c) (is_var rfl) (SqL.of ht) (by rw [List.length_map]; omega) (fun x hx H' sm => ?_) (fun H' sm hb => ?_) (fun H' sm hb => ?_)
    · obtain ⟨b, hb, rfl⟩ := List.mem_map.mp hx
      exact is_op0 (is_var rfl) is_c
    · have c1 : 300 < w.length ∨ (w.all fun c => decide (c ≤ 255)) = false := by
        rw [bigV_any, Bool.or_eq_true, decide_eq_true_eq] at hb
        rcases hb with z | z
        · exact .inl (by omega)
        · exact .inr (by simpa using z)
      refine refused T (h.same sm) is_c ?_ fun H2 A' p q1 q2 q3 q4 => k H2 A' p q1 ((Out.same sm).trans q2) q3 q4
      show (if 300 < w.length ∨ (w.all fun c => decide (c ≤ 255)) = false then _ else _) = _
      rw [if_pos c1]
    · have c1 : ¬ (300 < w.length ∨ (w.all fun c => decide (c ≤ 255)) = false) := by
        rw [bigV_any, Bool.or_eq_false_iff, decide_eq_false_iff_not] at hb
        rintro (z | z)
        · exact hb.1 (by omega)
        · rw [z] at hb
          exact absurd hb.2 (by decide)
      refine s_seq (s_setCall (isA_cons (is_var rfl) isA_nil) ⟨t, w, rfl, sm _ _ ht, hw, fun H2 sm2 => ?_⟩)
      have hs2 := h.same (sm.trans sm2)
      have smm := sm.trans sm2
      refine s_guard (isT_op (is_var rfl) is_c) (fun hb => ?_) (fun hb => ?_)
      · have hf : faultOf w ≠ 0 := by have := of_decide_eq_true hb; omega
        refine refused T (n := 10 + ((faultOf w : Nat) : Int)) hs2 (is_op0 is_c (is_var rfl)) ?_ fun H3 A' p q1 q2 q3 q4 => k H3 A' p q1 ((Out.same smm).trans q2) q3 q4
        show (if 300 < w.length ∨ (w.all fun c => decide (c ≤ 255)) = false then _ else match Ge13.read w with | .error e => _ | .ok c => _) = _
        rw [if_neg c1, read_fault, if_neg hf]
        show (g, [-10 - ((faultOf w : Nat) : Int)]) = (g, [-(10 + ((faultOf w : Nat) : Int))])
        congr 2
        omega
      · have hf : faultOf w = 0 := by have := of_decide_eq_false hb; omega
        have wf := caveOf_wf hf
        have e : Ge13.step g (.cave w) = ({ g with game := { Ge13.game0 (caveOf w) with step := g.game.step } }, Ge13.ints (Ge13.told (caveOf w) ++ [(caveOf w).w, (caveOf w).h])) := by
          show (if 300 < w.length ∨ (w.all fun c => decide (c ≤ 255)) = false then _ else match Ge13.read w with | .error e => _ | .ok c => _) = _
          rw [if_neg c1, read_fault, if_pos hf]
        have gi : GInv { Ge13.game0 (caveOf w) with step := g.game.step } := game0_inv wf ⟨rfl, rfl, rfl⟩ hv.gm.st
        refine s_seq (s_setCall (isA_cons (is_var rfl) isA_nil) ⟨t, w, rfl, smm _ _ ht, hw, hf, fun H3 ar arl sm3 hc3 nar narl => ?_⟩)
        have hs3 := hs2.same sm3
        refine s_seq (s_fldMake (a_cons (is_var rfl) (a_cons (is_fld (is_game T hs3 (is_var rfl)) hs3.gm.g T.k_Game (by decide) l_parts) (a_nil fun x dx hx hdx ndx => ?_))))
        have sm0 : Same H3 (upd (upd H3 dx (.own x)) x (.ins a.cGame dx [])) := fun b o hb => by
          rw [upd_ne (ne_of_none hb hx), upd_ne (ne_of_none hb hdx)]
          exact hb
        refine ⟨x, dx, ar, g.game.step, rfl, upd_same, fun H4 so l st ob1 hso hl hst nso nl nst nlso sx => ⟨rfl, ?_⟩⟩
        have sm4 : Same H3 H4 := made_same hx hdx sx
        have f0 : ∀ q, (upd (upd H3 dx (.own x)) x (.ins a.cGame dx [])) q = none → H3 q = none := fun q hq => sm0.free hq
        have d3 : ∀ b, b = x ∨ b = so ∨ b = l → H3 b = none := fun b hb => by
          rcases hb with rfl | rfl | rfl
          · exact hx
          · exact f0 _ nso
          · exact f0 _ nl
        have nstx : st ≠ x := (ne_of_none upd_same nst).symm
        obtain ⟨d1, e1⟩ := hst
        obtain ⟨d2, e2⟩ := hc3.ob
        have hg := newGameAt (K := K) (x := x) (so := so) (l := l) (t := ⟨st, ar, arl⟩) ob1 hl hso ⟨d1, e1⟩ (hc3.same sm4) rfl rfl nlso (new_nf (H := H3) (H' := H4) nstx d3 (fun b hb => by
          rcases hb with rfl | rfl
          · exact ⟨_, e2⟩
          · exact ⟨_, hc3.ls⟩) e1 hso hl)
        refine fld_in (is_var rfl) (ob_same hs2.ob (sm3.trans sm4)) T.k_Session (by decide) (by show 2 < 1000; decide) fun dx2 _ => ?_
        obtain ⟨h5, o5⟩ := hs2.newGame (sm3.trans sm4) hg ⟨sm3.free hx, sm3.free (f0 _ nso), sm3.free (f0 _ nl)⟩ (fun b r p => by
          obtain ⟨t', ht', p⟩ := p
          cases List.mem_singleton.mp ht'
          rcases p with rfl | rfl | rfl
          · exact dead (sm3.free (f0 _ nst)) (hs2.refs _ r)
          · exact dead nar (hs2.refs _ r)
          · exact dead narl (hs2.refs _ r)) dx2
        refine s_retCatC (isA_cons (is_game T h5 (is_var rfl)) isA_nil) ⟨_, _, rfl, h5.gm, gi.wf.len, fun p hp => ?_⟩
        have h6 := h5.same (same_new (o := .lst ([(caveOf w).over, (caveOf w).points, ([] : List Nat).length, gems (caveOf w)].map iv)) hp)
        have c6 : CavAt K a _ ar arl (caveOf w) := (h6.gm.st 0 ⟨st, ar, arl⟩ rfl).cv
        refine cat_in upd_same (isA_cons (is_fld (is_var rfl) c6.ob T.k_Cave (by decide) l_wide) (isA_cons (is_fld (is_var rfl) c6.ob T.k_Cave (by decide) l_high) isA_nil)) (by show 4 + 2 ≤ 1000; decide) fun r H7 hr sm7 hr7 => ?_
        refine k H7 ⟨x, so, l, [⟨st, ar, arl⟩]⟩ r ?_ ((((Out.same smm).trans o5).trans (Out.same (same_new hp))).trans (Out.same sm7)) ?_ (not_out hr h6.refs)
        · rw [e]
          exact (h6.same sm7).more
        · rw [e, hr7]
          refine congrArg (fun z => some (HO.lst z)) ?_
          rw [← zv_ints]
          rfl
theorem c_Session : C8.Mak P w K mg base 5 "Session" a.cSession (spSession K a) [] := by
  obtain ⟨f, fd, M, hm, F, b⟩ := T.d_Session
  refine C8.mak0 M hm F b .nil sc_Session_init (fun vs H Q E h => ?len) (fun cdv A0 outer s H vs Q E hr h => ⟨_, (pss_cons (ps_fld (pv 0) (C8.pe_mk (c_Game T) hr (by decide) (by rfl) (pa_cons (C8.pe_c (c_read_cave T) hr (by decide) (by rfl) (pa_cons (pe_callTy call_list_of (by rfl) T.n_list (by decide +kernel) (pa_cons (C8.pe_gc (by rfl) T.g_FIRST_TEXT) pa_nil)) pa_nil)) (pa_cons (C8.pe_gc (by rfl) T.g_FIRST_TICK_PARTS) pa_nil))) rfl) (pss_one (ps_fld (pv 0) pe_dnewK rfl))), ?rd⟩)
  case len => obtain ⟨p, dx, rfl, _⟩ := h; rfl
  case rd =>
    obtain ⟨p, dx, rfl, hp, k⟩ := h
    refine s_seq (s_fldMake (a_callL is_c (T.q_FIRST_TEXT H) fun l0 hl0 => ?_))
    refine ⟨l0, [35, 35, 35, 10, 35, 64, 35, 10, 35, 35, 35, 10], rfl, upd_same, by decide, first_fault, fun H3 ar arl sm3 hc3 nar narl => ?_⟩
    rw [first_cave] at hc3
    refine a_cons is_c (a_nil fun x dx1 hx hdx ndx => ?_)
    have sm0 : Same H3 (upd (upd H3 dx1 (.own x)) x (.ins a.cGame dx1 [])) := fun b o hb => by
      rw [upd_ne (ne_of_none hb hx), upd_ne (ne_of_none hb hdx)]
      exact hb
    refine ⟨x, dx1, ar, 10, rfl, upd_same, fun H4 so l st ob1 hso hl hst nso nl nst nlso sx => ⟨rfl, ?_⟩⟩
    have sm4 : Same H3 H4 := made_same hx hdx sx
    have sm03 : Same H H3 := (same_new hl0).trans sm3
    have f0 : ∀ q, (upd (upd H3 dx1 (.own x)) x (.ins a.cGame dx1 [])) q = none → H3 q = none := fun q hq => sm0.free hq
    have d3 : ∀ b, b = x ∨ b = so ∨ b = l → H3 b = none := fun b hb => by
      rcases hb with rfl | rfl | rfl
      · exact hx
      · exact f0 _ nso
      · exact f0 _ nl
    have nstx : st ≠ x := (ne_of_none upd_same nst).symm
    obtain ⟨d1, e1⟩ := hst
    obtain ⟨d2, e2⟩ := hc3.ob
    have hg := newGameAt (K := K) (x := x) (so := so) (l := l) (t := ⟨st, ar, arl⟩) ob1 hl hso ⟨d1, e1⟩ (hc3.same sm4) rfl rfl nlso (new_nf (H := H3) (H' := H4) nstx d3 (fun b hb => by
      rcases hb with rfl | rfl
      · exact ⟨_, e2⟩
      · exact ⟨_, hc3.ls⟩) e1 hso hl)
    have smH : Same H H4 := sm03.trans sm4
    have dz : ∀ b, Froz [(⟨st, ar, arl⟩ : SA)] b → H b = none := fun b p => by
      obtain ⟨t', ht', p⟩ := p
      cases List.mem_singleton.mp ht'
      rcases p with rfl | rfl | rfl
      · exact sm03.free (f0 _ nst)
      · exact (same_new hl0).free nar
      · exact (same_new hl0).free narl
    have nw : New H ⟨x, so, l, [⟨st, ar, arl⟩]⟩ := ⟨sm03.free hx, sm03.free (f0 _ nso), sm03.free (f0 _ nl)⟩
    refine fld_in (is_var rfl) ⟨dx, smH _ _ hp⟩ T.k_Session (by decide) (by show 0 < 1000; decide) fun dx2 _ => ?_
    refine s_fldNew fun d hd => ?_
    obtain ⟨nd, hd1⟩ := upd_none hd
    refine fld_in (is_var rfl) (fs := putF "game" (.ref x) []) ⟨dx2, by rw [upd_ne nd.symm, upd_same]⟩ T.k_Session (by decide) (by show 1 < 1000; decide) fun dx3 _ => ?_
    have sxp : SameX p H4 (upd (upd (upd H4 p (.ins a.cSession dx2 (putF "game" (.ref x) []))) d (.dK [])) p (.ins a.cSession dx3 (putF "kept" (.ref d) (putF "game" (.ref x) [])))) := (SameX.upd.trans (SameX.of (same_new hd))).trans SameX.upd
    refine k _ d ⟨x, so, l, [⟨st, ar, arl⟩]⟩ ⟨dx3, by rw [upd_same]; rfl⟩ (by rw [upd_ne nd, upd_same]) ?_ nw dz (smH.free hd1) ((SameX.of smH).trans sxp)
    refine hg.mono fun b o eb pb => sxp b o eb fun z => ?_
    subst z
    rcases pb with q | q
    · exact dead (nw.own q) ⟨_, hp⟩
    · exact dead (dz _ q) ⟨_, hp⟩
end
end G

set_option Elab.async false
set_option linter.all false
set_option maxRecDepth 100000
set_option maxHeartbeats 4000000
namespace G
open PySem PySem.Spec PyProof.Rows L2
open Ge13 (at_ put gems beside cellTo Marks goTo playerTurn stoneTurn monsterTurn)
open Gm
open U

/-! ### place, seen, back, keys, play, counts, differ -/
/-- given: a list of two numbers -/
def two (mk : Nat → Nat → Ge13.Call) : List V → Hp → Option Ge13.Call → Prop := fun us H c => ∃ (l : Addr) (n m : Nat) (rest : List V), us = [.ref l] ∧ H l = some (.lst (iv n :: iv m :: rest)) ∧ c = some (mk n m)
/-- given: what is pressed -/
def playA : List V → Hp → Option Ge13.Call → Prop := fun us H c => ∃ (t : Addr) (w : List Nat), us = [.ref t] ∧ H t = some (.lst (w.map iv)) ∧ w.length ≤ 1000 ∧ c = some (.play w)
def keyV (v : V) : Bool := match v with
  | .int n => decide (4 < n)
  | _ => false
theorem keyV_any (w : List Nat) : (w.map iv).any keyV = !(w.all fun c => decide (c ≤ 4)) := by
  induction w with
  | nil => rfl
  | cons b w ih =>
    rw [List.map_cons, List.any_cons, ih, List.all_cons, Bool.not_and]
    congr 1
    show decide ((4 : Int) < (b : Int)) = !decide (b ≤ 4)
    by_cases e : b ≤ 4
    · rw [decide_eq_true e, decide_eq_false (by omega)]
      rfl
    · rw [decide_eq_false e, decide_eq_true (by omega)]
      rfl
section
variable {K : PySem.W.Frag} {σ : L2.St} {H : Hp} {D : Ends} {te ta tb : TE} {t : TT} {t1 t2 : L2.TA} {sp1 sp2 : Sp} {vs : List V}
theorem is_second {l : Addr} {n m : Nat} {rest : List V} {i : Nat} (h : σ[i]? = some (some (.ref l))) (e : H l = some (.lst (iv n :: iv m :: rest))) : Is (tOp (rIxL K) (tVar i) (tC (.int 1))) σ H (iv m) := is_ixL (is_var h) is_c (SqL.of e) (atI_nat (j := 1) rfl)
/-- return f(..) + g(..) -/
theorem s_retCat2 (h : IsA t1 σ H vs) (k : sp1 (vs ++ []) H (fun x H1 => t2 σ H1 fun us H2 => sp2 (us ++ []) H2 (fun y H3 => rCat x y H3 D.rt) C8.E0) C8.E0) : tRet (tOp rCat (tCall sp1 [] C8.E0 t1) (tCall sp2 [] C8.E0 t2)) D σ H := h _ k
/-- return [..] + xs, the list behind told in a grown heap -/
theorem s_retCatS {xs ys : List V} {t : Addr} (h : IsA t1 σ H xs) (i : ∀ H', Same H H' → Is te σ H' (.ref t)) (ht : H t = some (.lst ys)) (hn : xs.length + ys.length ≤ 100000)
    (k : ∀ p H2, H p = none → Same H H2 → H2 p = some (.lst (xs ++ ys)) → D.rt (.ref p) H2) : tRet (tOp rCat (tLst t1) te) D σ H :=
  h _ ⟨Nat.le_trans (Nat.le_add_right _ _) (Nat.le_trans hn (by decide)), fun p hp => i _ (same_new hp) _ ⟨p, t, xs, ys, rfl, rfl, upd_same, by rw [upd_ne (ne_of_none ht hp)]; exact ht, Nat.le_trans hn (by decide), fun r hr => by
    obtain ⟨n1, hr0⟩ := upd_none hr
    exact k r _ hr0 ((same_new hp).trans (same_new hr)) upd_same⟩⟩
/-- return a if t else b -/
theorem s_retIf {b : Bool} (h : IsT t σ H b) (h1 : b = true → tRet ta D σ H) (h2 : b = false → tRet tb D σ H) : tRet (tIf t ta tb) D σ H := h _ (by
  cases b with
  | true => exact iteT (h1 rfl)
  | false => exact iteF (h2 rfl))
end
theorem pressL_take {w : List Nat} {i k : Nat} (h : w[i]? = some k) (g : Ge13.Game) : pressL (w.take (i + 1)) g = pressOn (pressL (w.take i) g) k := by
  rw [take_snoc h, pressL_snoc]
section
variable {P : Program} {w : World} {K : PySem.W.Frag} {mg : Str → Option Value} {base : Heap} {a : Ad} (T : Txt K mg a)
include T

theorem c_answer_place : C8.Cal P w K mg base 4 "answer_place" (spAns K a (two .place)) [] := by
  obtain ⟨f, fd, F, b⟩ := T.d_answer_place
  refine C8.cal0 F b .nil sc_answer_place (fun vs H Q E h => ?len) (fun cdv A0 outer s H vs Q E hr h => ⟨_, (pss_cons (ps_set (i := 2) sc_answer_place.nd rfl (Or.inl rfl) (pe_ix ix_list (pv 1) pe_int (fun _ _ => rfl))) (pss_cons (ps_set (i := 3) sc_answer_place.nd rfl (Or.inl rfl) (pe_ix ix_list (pv 1) pe_int (fun _ _ => rfl))) (pss_cons (ps_set (i := 4) sc_answer_place.nd rfl (Or.inl rfl) (C8.pe_c (c_cave_now T) hr (by decide) (by rfl) (pa_cons (pv 0) pa_nil))) (pss_cons (ps_if (pt_not (pt_val (C8.pe_c (c_is_within T) hr (by decide) (by rfl) (pa_cons (pv 4) (pa_cons (pv 2) (pa_cons (pv 3) pa_nil)))))) (pss_one (ps_ret (C8.pe_c (c_refuse T) hr (by decide) (by rfl) (pa_cons (C8.pe_gc (by rfl) T.g_NOT_THERE) pa_nil)))) pss_nil) (pss_one (ps_ret (pe_lst (pa_cons (C8.pe_c (c_thing_at T) hr (by decide) (by rfl) (pa_cons (pv 4) (pa_cons (pv 2) (pa_cons (pv 3) pa_nil)))) pa_nil)))))))), ?rd⟩)
  case len =>
    obtain ⟨s, d, A, g, N, R, us, c, rfl, ⟨l, n, m, rest, rfl, _⟩, _⟩ := h
    rfl
  case rd =>
    obtain ⟨s, d, A, g, N, R, us, c, rfl, ⟨l, n, m, rest, rfl, hl, ec⟩, h, hv, hN, hap, k⟩ := h
    cases ec
    obtain ⟨t, ht, hst⟩ := h.now
    have hh := hv.gm.wf.h14
    refine s_seq (s_set (is_first rfl hl) ?_)
    refine s_seq (s_set (is_second rfl hl) ?_)
    refine s_seq (s_set (is_caveNow T h (is_var rfl) ht) ?_)
    refine s_guard (isT_not (isT_v (is_call (v := .bl (decide (n < g.game.now.w) && decide (m < g.game.now.h))) (isA_cons (is_var rfl) (isA_cons (is_var rfl) (isA_cons (is_var rfl) isA_nil))) fun Q' E' q => ⟨t.cv, t.pl, _, _, n, m, rfl, hst.cv.ob, q⟩))) (fun hb => ?_) (fun hb => ?_)
    · have c1 : g.game.now.w ≤ n ∨ g.game.now.h ≤ m := by
        rw [Bool.not_eq_true', Bool.and_eq_false_iff, decide_eq_false_iff_not, decide_eq_false_iff_not] at hb
        omega
      refine refused T h is_c ?_ k
      show (g, if g.game.now.w ≤ n ∨ g.game.now.h ≤ m then _ else _) = _
      rw [if_pos c1]
    · rw [Bool.not_eq_false', Bool.and_eq_true, decide_eq_true_eq, decide_eq_true_eq] at hb
      have e : Ge13.step g (.place n m) = (g, Ge13.ints [Ge13.at_ g.game.now n m]) := by
        show (g, if g.game.now.w ≤ n ∨ g.game.now.h ≤ m then _ else _) = _
        rw [if_neg (by omega)]
      refine s_retLst (vs := [iv (Ge13.at_ g.game.now n m)]) (isA_cons (is_call (isA_cons (is_var rfl) (isA_cons (is_var rfl) (isA_cons (is_var rfl) isA_nil))) fun Q' E' q => ⟨t.cv, t.pl, _, n, m, rfl, hst.cv, hb.1, hb.2, by omega, q⟩) isA_nil) (by show 1 ≤ sizeLine; decide) fun p hp => ?_
      refine k _ A p ?_ (Out.same (same_new hp)) ?_ (not_out hp h.refs)
      · rw [e]
        exact (h.same (same_new hp)).more
      · rw [e, upd_same]
        rfl
theorem c_answer_seen : C8.Cal P w K mg base 6 "answer_seen" (spAns K a (one .seen)) [] := by
  obtain ⟨f, fd, F, b⟩ := T.d_answer_seen
  refine C8.cal0 F b .nil sc_answer_seen (fun vs H Q E h => ?len) (fun cdv A0 outer s H vs Q E hr h => ⟨_, (pss_cons (ps_set (i := 2) sc_answer_seen.nd rfl (Or.inl rfl) (pe_ix ix_list (pv 1) pe_int (fun _ _ => rfl))) (pss_cons (ps_if (pt_cmpR op_gt (pv 2) (C8.pe_c (c_count_ticks T) hr (by decide) (by rfl) (pa_cons (pe_fld (pv 0) rfl) pa_nil)) (nomark _)) (pss_one (ps_ret (C8.pe_c (c_refuse T) hr (by decide) (by rfl) (pa_cons (C8.pe_gc (by rfl) T.g_NOT_THERE) pa_nil)))) pss_nil) (pss_one (ps_ret (pe_op op_cat (C8.pe_c (c_how_it_stood T) hr (by decide) (by rfl) (pa_cons (pe_fld (pv 0) rfl) (pa_cons (pv 2) pa_nil))) (C8.pe_c (c_counted_text T) hr (by decide) (by rfl) (pa_cons (pe_fld (C8.pe_c (c_standing_behind T) hr (by decide) (by rfl) (pa_cons (pe_fld (pv 0) rfl) (pa_cons (pv 2) pa_nil))) rfl) pa_nil))))))), ?rd⟩)
  case len =>
    obtain ⟨s, d, A, g, N, R, us, c, rfl, ⟨l, n, rest, rfl, _⟩, _⟩ := h
    rfl
  case rd =>
    obtain ⟨s, d, A, g, N, R, us, c, rfl, ⟨l, n, rest, rfl, hl, ec⟩, h, hv, hN, hap, k⟩ := h
    cases ec
    refine s_seq (s_set (is_first rfl hl) ?_)
    refine s_guard (isT_op (is_var rfl) (is_count T h.gm (is_game T h (is_var rfl)))) (fun hb => ?_) (fun hb => ?_)
    · have c1 : g.game.keys.length < n := by have := of_decide_eq_true hb; omega
      refine refused T h is_c ?_ k
      show (g, if g.game.keys.length < n then _ else _) = _
      rw [if_pos c1]
    · have c1 : ¬ g.game.keys.length < n := by have := of_decide_eq_false hb; omega
      have hle : n ≤ g.game.keys.length := by omega
      have e : Ge13.step g (.seen n) = (g, Ge13.ints (Ge13.told (Ge13.playTo g.game n) ++ ((Ge13.write (Ge13.playTo g.game n)).length :: Ge13.write (Ge13.playTo g.game n)))) := by
        show (g, if g.game.keys.length < n then _ else _) = _
        rw [if_neg c1]
      have wf := playTo_ok hv.gm n
      have hw := write_small wf
      have tk : (Ge13.playTo g.game n).ticks = n := fold_ticks hv.gm n hle
      obtain ⟨t, ht, hst⟩ := h.gm.get hle
      refine s_retCat2 (isA_cons (is_game T h (is_var rfl)) (isA_cons (is_var rfl) isA_nil)) ⟨A, g.game, n, rfl, h.gm, hle, wf.len, fun p hp => ?_⟩
      have sm1 : Same H (upd H p (.lst ((stoodL (Ge13.playTo g.game n) n).map iv))) := same_new hp
      have h1 := h.same sm1
      have hst1 := hst.same sm1
      refine (isA_cons (is_fld (is_behind T h1.gm (is_game T h1 (is_var rfl)) (is_var rfl) ht) hst1.ob T.k_Standing (by decide) l_cave) isA_nil) _ ⟨t.cv, t.pl, _, rfl, hst1.cv, wf, fun H2 r sm2 hr hr2 => ?_⟩
      refine ⟨p, r, _, _, rfl, rfl, sm2 _ _ upd_same, hr2, ?_, fun q hq => ?_⟩
      · rw [List.length_map, List.length_map, List.length_cons]
        exact Nat.le_trans (by show 4 + _ ≤ 1000; omega) (by decide)
      · have sm3 : Same H (upd H2 q (.lst (((stoodL (Ge13.playTo g.game n) n).map iv) ++ (((Ge13.write (Ge13.playTo g.game n)).length :: Ge13.write (Ge13.playTo g.game n)).map iv)))) := (sm1.trans sm2).trans (same_new hq)
        refine k _ A q ?_ (Out.same sm3) ?_ (not_out ((sm1.trans sm2).free hq) h.refs)
        · rw [e]
          exact (h.same sm3).more
        · rw [e, upd_same, ← List.map_append, zv_ints]
          unfold stoodL Ge13.told
          rw [tk]
theorem c_answer_back : C8.Cal P w K mg base 4 "answer_back" (spAns K a (one .back)) [] := by
  obtain ⟨f, fd, F, b⟩ := T.d_answer_back
  refine C8.cal0 F b .nil sc_answer_back (fun vs H Q E h => ?len) (fun cdv A0 outer s H vs Q E hr h => ⟨_, (pss_cons (ps_set (i := 2) sc_answer_back.nd rfl (Or.inl rfl) (pe_ix ix_list (pv 1) pe_int (fun _ _ => rfl))) (pss_cons (ps_if (pt_cmpR op_gt (pv 2) (C8.pe_c (c_count_ticks T) hr (by decide) (by rfl) (pa_cons (pe_fld (pv 0) rfl) pa_nil)) (nomark _)) (pss_one (ps_ret (C8.pe_c (c_refuse T) hr (by decide) (by rfl) (pa_cons (C8.pe_gc (by rfl) T.g_NOT_THERE) pa_nil)))) pss_nil) (pss_cons (ps_expr (C8.pe_c (c_go_back T) hr (by decide) (by rfl) (pa_cons (pe_fld (pv 0) rfl) (pa_cons (pv 2) pa_nil)))) (pss_one (ps_ret (C8.pe_c (c_how_it_stands T) hr (by decide) (by rfl) (pa_cons (pe_fld (pv 0) rfl) pa_nil))))))), ?rd⟩)
  case len =>
    obtain ⟨s, d, A, g, N, R, us, c, rfl, ⟨l, n, rest, rfl, _⟩, _⟩ := h
    rfl
  case rd =>
    obtain ⟨s, d, A, g, N, R, us, c, rfl, ⟨l, n, rest, rfl, hl, ec⟩, h, hv, hN, hap, k⟩ := h
    cases ec
    refine s_seq (s_set (is_first rfl hl) ?_)
    refine s_guard (isT_op (is_var rfl) (is_count T h.gm (is_game T h (is_var rfl)))) (fun hb => ?_) (fun hb => ?_)
    · have c1 : g.game.keys.length < n := by have := of_decide_eq_true hb; omega
      refine refused T h is_c ?_ k
      show (if g.game.keys.length < n then (g, [-2]) else _) = _
      rw [if_pos c1]
    · have c1 : ¬ g.game.keys.length < n := by have := of_decide_eq_false hb; omega
      have hle : n ≤ g.game.keys.length := by omega
      have e : Ge13.step g (.back n) = ({ g with game := backOn g.game n }, Ge13.ints (Ge13.told (backOn g.game n).now)) := by
        show (if g.game.keys.length < n then (g, [-2]) else _) = _
        rw [if_neg c1]
        rfl
      have bi : GInv (backOn g.game n) := back_inv hv.gm hle
      refine s_seq (s_call (isA_cons (is_game T h (is_var rfl)) (isA_cons (is_var rfl) isA_nil)) ⟨A, g.game, n, rfl, h.gm, hle, fun H1 A' hg w => ?_⟩)
      obtain ⟨h1, o1⟩ := h.game hg w
      refine s_retCall (isA_cons (is_game T h1 (is_var rfl)) isA_nil) ⟨A', backOn g.game n, rfl, h1.gm, bi.wf.len, fun p hp => ?_⟩
      refine k _ A' p ?_ (o1.trans (Out.same (same_new hp))) ?_ (not_out hp h1.refs)
      · rw [e]
        exact (h1.same (same_new hp)).more
      · rw [e, upd_same, told_eq bi, zv_ints]
theorem c_answer_keys : C8.Cal P w K mg base 2 "answer_keys" (spAns K a (any0 .keys)) [] := by
  obtain ⟨f, fd, F, b⟩ := T.d_answer_keys
  refine C8.cal0 F b .nil sc_answer_keys (fun vs H Q E h => ?len) (fun cdv A0 outer s H vs Q E hr h => ⟨_, (pss_one (ps_ret (pe_op op_cat (pe_lst (pa_cons (C8.pe_c (c_count_ticks T) hr (by decide) (by rfl) (pa_cons (pe_fld (pv 0) rfl) pa_nil)) pa_nil)) (pe_fld (pe_fld (pv 0) rfl) rfl)))), ?rd⟩)
  case len =>
    obtain ⟨s, d, A, g, N, R, us, c, rfl, ⟨l, rfl, _⟩, _⟩ := h
    rfl
  case rd =>
    obtain ⟨s, d, A, g, N, R, us, c, rfl, ⟨l, rfl, ec⟩, h, hv, hN, hap, k⟩ := h
    cases ec
    have kl := hv.gm.kl
    refine s_retCatS (isA_cons (is_count T h.gm (is_game T h (is_var rfl))) isA_nil) (fun H' sm => is_fld (is_game T (h.same sm) (is_var rfl)) (h.same sm).gm.g T.k_Game (by decide) l_pressed) h.gm.l ?_ fun p H2 hp sm hp2 => ?_
    · rw [List.length_map]
      show 1 + _ ≤ _
      omega
    · refine k H2 A p (h.same sm).more (Out.same sm) ?_ (not_out hp h.refs)
      rw [hp2]
      refine congrArg (fun z => some (HO.lst z)) ?_
      show _ = zv (Ge13.ints (g.game.keys.length :: g.game.keys))
      rw [← zv_ints]
      rfl
theorem c_answer_play : C8.Cal P w K mg base 8 "answer_play" (spAns K a playA) [] := by
  obtain ⟨f, fd, F, b⟩ := T.d_answer_play
  refine C8.cal0 F b .nil sc_answer_play (fun vs H Q E h => ?len) (fun cdv A0 outer s H vs Q E hr h => ⟨_, (pss_cons (ps_set (i := 2) sc_answer_play.nd rfl (Or.inl rfl) (pe_fld (pv 0) rfl)) (pss_cons (ps_if (PW.pt (pw_or (pt_cmpR op_gt (pe_callB call_len_seq (by rfl) T.n_len (by decide +kernel) (pa_cons (pv 1) pa_nil)) (C8.pe_gc (by rfl) T.g_MOST_PRESSED) (nomark _)) (pw_or1 (pt_val (pe_callB (cr_any rfl) (by rfl) T.n_any (by decide +kernel) (pa_cons (pe_lc (own := [("key", 3)]) (g := gName 3) (tt := tYes) rfl sc_answer_play.nd (pi_list (pv 1)) (blkOk_by (own := [("key", 3)]) (N := nm_answer_play) (sc := C8.fnScope s_answer_play) (by decide +kernel)) (fun _ _ _ _ _ => (pg_name (i := 3) sc_answer_play.nd rfl (Or.inl rfl))) (fun _ _ _ _ _ => pts_nil) (fun _ _ _ _ _ => (pe_cmpR op_gt (pv 3) (C8.pe_gc (by rfl) T.g_MOST_KEY) (nomark _)))) pa_nil)))))) (pss_one (ps_ret (C8.pe_c (c_refuse T) hr (by decide) (by rfl) (pa_cons (C8.pe_gc (by rfl) T.g_BEYOND_BOUNDS) pa_nil)))) pss_nil) (pss_cons (ps_if (pt_val (C8.pe_c (c_are_too_many T) hr (by decide) (by rfl) (pa_cons (pv 2) (pa_cons (pe_callB call_len_seq (by rfl) T.n_len (by decide +kernel) (pa_cons (pv 1) pa_nil)) pa_nil)))) (pss_one (ps_ret (C8.pe_c (c_refuse T) hr (by decide) (by rfl) (pa_cons (C8.pe_gc (by rfl) T.g_TOO_MANY_TICKS) pa_nil)))) pss_nil) (pss_cons (ps_for PassesOwn.never rfl (pi_list (pv 1)) (pg_name (i := 3) sc_answer_play.nd rfl (Or.inl rfl)) (pss_one (ps_expr (C8.pe_c (c_press T) hr (by decide) (by rfl) (pa_cons (pv 2) (pa_cons (pv 3) pa_nil)))))) (pss_one (ps_ret (C8.pe_c (c_how_it_stands T) hr (by decide) (by rfl) (pa_cons (pv 2) pa_nil)))))))), ?rd⟩)
  case len =>
    obtain ⟨s, d, A, g, N, R, us, c, rfl, ⟨t, w, rfl, _⟩, _⟩ := h
    rfl
  case rd =>
    obtain ⟨s, d, A, g, N, R, us, c, rfl, ⟨t, w, rfl, ht, hw, ec⟩, h, hv, hN, hap, k⟩ := h
    cases ec
    have gi := hv.gm
    have kl := gi.kl
    refine s_seq (s_set (is_game T h (is_var rfl)) ?_)
    have ln : ∀ (σ : L2.St) (H : Hp), σ[1]? = some (some (.ref t)) → H t = some (.lst (w.map iv)) → Is (tCB (U.rLen K) (tCons (tVar 1) tNil)) σ H (.int ((w.length : Nat) : Int)) := fun σ H s1 ht => is_to (is_len (is_var s1) (SqL.of ht)) (by rw [List.length_map])
    refine s_guardOr (g := keyV) (isT_op (ln _ _ rfl ht) is_c) (is_var rfl) (SqL.of ht) (by rw [List.length_map]; omega) (fun x hx H' sm => ?_) (fun H' sm hb => ?_) (fun H' sm hb => ?_)
    · obtain ⟨b, hb, rfl⟩ := List.mem_map.mp hx
      exact is_op0 (is_var rfl) is_c
    · have c1 : 100 < w.length ∨ (w.all fun c => decide (c ≤ 4)) = false := by
        rw [keyV_any, Bool.or_eq_true, decide_eq_true_eq] at hb
        rcases hb with z | z
        · exact .inl (by omega)
        · exact .inr (by simpa using z)
      refine refused T (h.same sm) is_c ?_ fun H2 A' p q1 q2 q3 q4 => k H2 A' p q1 ((Out.same sm).trans q2) q3 q4
      show (if 100 < w.length ∨ (w.all fun c => decide (c ≤ 4)) = false then _ else _) = _
      rw [if_pos c1]
    · have c1 : ¬ (100 < w.length ∨ (w.all fun c => decide (c ≤ 4)) = false) := by
        rw [keyV_any, Bool.or_eq_false_iff, decide_eq_false_iff_not] at hb
        rintro (z | z)
        · exact hb.1 (by omega)
        · rw [z] at hb
          exact absurd hb.2 (by decide)
      have hk4 : ∀ k ∈ w, k ≤ 4 := all_le fun z => c1 (.inr z)
      have h1 := h.same sm
      have ht1 := sm _ _ ht
      refine s_guard (isT_v (is_call (isA_cons (is_var rfl) (isA_cons (ln _ _ rfl ht1) isA_nil)) fun Q' E' z => ⟨A, g.game, w.length, rfl, h1.gm, z⟩)) (fun hb => ?_) (fun hb => ?_)
      · rw [Bool.and_eq_true, decide_eq_true_eq, decide_eq_true_eq] at hb
        refine refused T h1 is_c ?_ fun H2 A' p q1 q2 q3 q4 => k H2 A' p q1 ((Out.same sm).trans q2) q3 q4
        show (if 100 < w.length ∨ (w.all fun c => decide (c ≤ 4)) = false then _ else if 400 < g.game.keys.length + w.length ∧ g.game.now.over = 0 then _ else _) = _
        rw [if_neg c1, if_pos ⟨hb.2, hb.1⟩]
      · have c2 : ¬ (400 < g.game.keys.length + w.length ∧ g.game.now.over = 0) := fun z => by
          rw [decide_eq_true z.1, decide_eq_true z.2] at hb
          cases hb
        have c3 : g.game.now.over = 0 → g.game.keys.length + w.length ≤ 400 := fun ho => by
          apply Classical.byContradiction
          intro z
          exact c2 ⟨by omega, ho⟩
        have e : Ge13.step g (.play w) = ({ g with game := pressL w g.game }, Ge13.ints (Ge13.told (pressL w g.game).now)) := by
          show (if 100 < w.length ∨ (w.all fun c => decide (c ≤ 4)) = false then _ else if 400 < g.game.keys.length + w.length ∧ g.game.now.over = 0 then _ else
            (({ g with game := { w.foldl (fun x k => Ge13.tickOn { x with held := k }) g.game with held := g.game.held } } : Ge13.House), Ge13.ints (Ge13.told ({ w.foldl (fun x k => Ge13.tickOn { x with held := k }) g.game with held := g.game.held } : Ge13.Game).now))) = _
          rw [if_neg c1, if_neg c2, play_eq]
        have fi : GInv (pressL w g.game) := pressL_inv w gi hk4 c3
        have nt : ¬ (t = A.g ∨ t = A.so ∨ t = A.l) := fun z => hap t (List.mem_singleton.mpr rfl) (.inl z)
        refine s_seq (s_forList (is_var rfl) (SqL.of ht1) ?_)
        refine ⟨fun i σ H' => (∃ u : Option V, σ = [some (.ref s), some (.ref t), some (.ref A.g), u]) ∧ ∃ A' : GA, GameAt K a H' A' (pressL (w.take i) g.game) ∧ Went H A H' A', ?_, ?_, ?_, ?_⟩
        · exact ⟨⟨none, rfl⟩, A, h1.gm, Went.same sm⟩
        · rintro i σ H2 _ ⟨_, A', _, hf⟩
          exact SqL.of (hf.keep _ _ ht nt)
        · rintro i x σ H2 hi ⟨⟨u, rfl⟩, A', hg, hf⟩
          obtain ⟨b, hb, rfl⟩ := map_get hi
          have hil := (List.getElem?_eq_some_iff.mp hb).1
          have pi := pressL_inv (w.take i) gi (fun x hx => hk4 x (List.mem_of_mem_take hx)) fun ho => by
            have := c3 ho
            rw [List.length_take]
            omega
          refine s_call (isA_cons (is_var rfl) (isA_cons (is_var rfl) isA_nil)) ?_
          refine ⟨A', pressL (w.take i) g.game, b, by rw [hf.g]; rfl, hg, pi.wf, hk4 b (List.mem_of_getElem? hb), by have := pi.kl; omega, fun H3 A2 h2 f2 => ⟨⟨_, rfl⟩, A2, ?_, hf.trans f2⟩⟩
          rw [pressL_take hb]
          exact h2
        · rintro σ H2 ⟨⟨u, rfl⟩, A', hg, hf⟩
          rw [List.length_map, List.take_length] at hg
          obtain ⟨h2, o2⟩ := h.game hg hf
          dsimp only
          refine s_retCall (isA_cons (is_var rfl) isA_nil) ⟨A', pressL w g.game, by rw [hf.g]; rfl, h2.gm, fi.wf.len, fun p hp => ?_⟩
          refine k _ A' p ?_ (o2.trans (Out.same (same_new hp))) ?_ (not_out hp h2.refs)
          · rw [e]
            exact (h2.same (same_new hp)).more
          · rw [e, upd_same, told_eq fi, zv_ints]
theorem c_answer_counts : C8.Cal P w K mg base 5 "answer_counts" (spAns K a (any0 .counts)) [] := by
  obtain ⟨f, fd, F, b⟩ := T.d_answer_counts
  refine C8.cal0 F b .nil sc_answer_counts (fun vs H Q E h => ?len) (fun cdv A0 outer s H vs Q E hr h => ⟨_, (pss_one (ps_ret (C8.pe_c (c_count_things T) hr (by decide) (by rfl) (pa_cons (C8.pe_c (c_cave_now T) hr (by decide) (by rfl) (pa_cons (pv 0) pa_nil)) pa_nil)))), ?rd⟩)
  case len =>
    obtain ⟨s, d, A, g, N, R, us, c, rfl, ⟨l, rfl, _⟩, _⟩ := h
    rfl
  case rd =>
    obtain ⟨s, d, A, g, N, R, us, c, rfl, ⟨l, rfl, ec⟩, h, hv, hN, hap, k⟩ := h
    cases ec
    obtain ⟨t, ht, hst⟩ := h.now
    refine s_retCall (isA_cons (is_caveNow T h (is_var rfl) ht) isA_nil) ⟨t.cv, t.pl, g.game.now, rfl, hst.cv, hv.gm.wf, fun H1 r sm hr hr1 => ?_⟩
    refine k H1 A r (h.same sm).more (Out.same sm) ?_ (not_out hr h.refs)
    rw [hr1]
    refine congrArg (fun z => some (HO.lst z)) ?_
    show _ = zv (Ge13.ints ((List.range 13).map fun v => (g.game.now.cells.filter fun u => u == v).length))
    rw [← zv_ints]
    rfl
theorem c_answer_differ : C8.Cal P w K mg base 4 "answer_differ" (spAns K a (one .differ)) [] := by
  obtain ⟨f, fd, F, b⟩ := T.d_answer_differ
  refine C8.cal0 F b .nil sc_answer_differ (fun vs H Q E h => ?len) (fun cdv A0 outer s H vs Q E hr h => ⟨_, (pss_cons (ps_set (i := 2) sc_answer_differ.nd rfl (Or.inl rfl) (pe_ix ix_list (pv 1) pe_int (fun _ _ => rfl))) (pss_cons (ps_if (pt_cmp (pc_dnotin (hu_of hr) (pv 2) (pe_fld (pv 0) rfl))) (pss_one (ps_ret (C8.pe_c (c_refuse T) hr (by decide) (by rfl) (pa_cons (C8.pe_gc (by rfl) T.g_NOT_THERE) pa_nil)))) pss_nil) (pss_cons (ps_set (i := 3) sc_answer_differ.nd rfl (Or.inl rfl) (C8.pe_c (c_find_parting T) hr (by decide) (by rfl) (pa_cons (pe_fld (pv 0) rfl) (pa_cons (pe_dget (hu_of hr) (pe_fld (pv 0) rfl) (pv 2) (fun _ _ => rfl)) pa_nil)))) (pss_one (ps_ret (pe_ifExp (pt_cmpR U.op_isN' (pv 3) pe_non (nomark _)) (C8.pe_c (c_refuse T) hr (by decide) (by rfl) (pa_cons (C8.pe_gc (by rfl) T.g_ALIKE) pa_nil)) (pe_lst (pa_cons (pv 3) pa_nil)))))))), ?rd⟩)
  case len =>
    obtain ⟨s, d, A, g, N, R, us, c, rfl, ⟨l, n, rest, rfl, _⟩, _⟩ := h
    rfl
  case rd =>
    obtain ⟨s, d, A, g, N, R, us, c, rfl, ⟨l, n, rest, rfl, hl, ec⟩, h, hv, hN, hap, k⟩ := h
    cases ec
    have kl := hv.gm.kl
    refine s_seq (s_set (is_first rfl hl) ?_)
    obtain ⟨kvs, hd, hkl, hk⟩ := h.kp
    have q := hk n
    refine s_guard (isT_v (is_dnotin (k := .inl (n : Int)) (is_var rfl) (is_kept T h (is_var rfl)) hd)) (fun hb => ?_) (fun hb => ?_)
    · have e0 : Ge13.slot g n = none := by
        cases e1 : Ge13.slot g n with
        | none => rfl
        | some x =>
          rw [e1] at q
          obtain ⟨B, q1, _⟩ := q
          rw [q1] at hb
          cases hb
      refine refused T h is_c ?_ k
      show (g, match Ge13.slot g n with | none => [-2] | some x => _) = _
      rw [e0]
    · cases e0 : Ge13.slot g n with
      | none =>
        rw [e0] at q
        rw [q] at hb
        cases hb
      | some x =>
        rw [e0] at q
        obtain ⟨B, q1, q2, q3, q4⟩ := q
        have xi := hv.sl n x e0
        have hal : ∀ i, i ≤ g.game.keys.length → i ≤ x.keys.length → (alike (Ge13.playTo g.game i) (Ge13.playTo x i) = true ↔ Ge13.playTo g.game i = Ge13.playTo x i) := fun i h1 h2 =>
          alike_iff (playTo_ok hv.gm i).len (playTo_ok xi i).len ((fold_ticks hv.gm i h1).trans (fold_ticks xi i h2).symm)
        have e : Ge13.step g (.differ n) = (g, match Ge13.firstOther g.game x with | none => [-6] | some k => Ge13.ints [k]) := by
          show (g, match Ge13.slot g n with | none => [-2] | some x => match Ge13.firstOther g.game x with | none => [-6] | some k => Ge13.ints [k]) = _
          rw [e0]
        refine s_seq (s_set (is_call (v := partV (Ge13.firstOther g.game x)) (isA_cons (is_game T h (is_var rfl)) (isA_cons (is_dget (k := .inl (n : Int)) (is_kept T h (is_var rfl)) (is_var rfl) hd q1) isA_nil)) fun Q' E' z => ⟨A, B, g.game, x, rfl, h.gm, q2, by omega, hal, z⟩) ?_)
        cases e1 : Ge13.firstOther g.game x with
        | none =>
          rw [e1] at e
          refine s_retIf (isT_t (is_isN (is_var (v := .non) rfl))) (fun _ => ?_) (fun hb => ?_)
          · exact refused T h is_c e k
          · exact absurd hb (by decide)
        | some j =>
          rw [e1] at e
          refine s_retIf (isT_t (is_isN (is_var (v := iv j) rfl))) (fun hb => ?_) (fun _ => ?_)
          · exact absurd (of_decide_eq_true hb) (fun z => by cases z)
          · refine s_retLst (vs := [iv j]) (isA_cons (is_var (v := iv j) rfl) isA_nil) (by show 1 ≤ sizeLine; decide) fun p hp => ?_
            refine k _ A p ?_ (Out.same (same_new hp)) ?_ (not_out hp h.refs)
            · rw [e]
              exact (h.same (same_new hp)).more
            · rw [e, upd_same]
              rfl
end
end G

set_option Elab.async false
set_option linter.all false
set_option maxRecDepth 100000
set_option maxHeartbeats 4000000
namespace G
open PySem PySem.Spec PyProof.Rows L2
open Ge13 (at_ put gems beside cellTo Marks goTo playerTurn stoneTurn monsterTurn)
open Gm
open U

theorem inV_is (l : List Nat) (b : Nat) : inV (.int (b : Int)) (l.map iv) = l.contains b := by
  unfold inV
  induction l with
  | nil => rfl
  | cons a l ih =>
    rw [List.map_cons, List.any_cons, ih, List.contains_cons]
    congr 1
    show eqV (.int (a : Int)) (.int (b : Int)) = (b == a)
    by_cases e : a = b
    · subst e
      simp [eqV]
    · have e2 : ¬ ((a : Int) = (b : Int)) := by omega
      have e3 : (b == a) = false := beq_eq_false_iff_ne.mpr fun z => e z.symm
      rw [e3]
      simp [eqV, e2]
theorem flat_all (l : List Nat) : (l.map iv).all flatV = true := by
  rw [List.all_map, List.all_eq_true]
  intro x _
  rfl
/-- calls that are served so far -/
def served (p : Nat) : Prop := p ≤ 13
theorem rows_is {p : Nat} (h : served p) : inV (.int (p : Int)) (([0, 11] : List Nat).map iv) = isRow p := by
  rw [inV_is]
  unfold served at h
  match p, h with
  | 0, _ | 1, _ | 2, _ | 3, _ | 4, _ | 5, _ | 6, _ | 7, _ | 8, _ | 9, _ | 10, _ | 11, _ | 12, _ | 13, _ => rfl
theorem cnt_is {p : Nat} (h : served p) (hr : isRow p = false) : ([(1, 1), (2, 1), (3, 1), (4, 1), (5, 1), (6, 0), (7, 2), (8, 1), (9, 1), (10, 0), (12, 0), (13, 1)] : List (Int × Int)).lookup (p : Int) = some ((Gm.cnt p : Nat) : Int) := by
  unfold served at h
  match p, h with
  | 0, _ | 11, _ => cases hr
  | 1, _ | 2, _ | 3, _ | 4, _ | 5, _ | 6, _ | 7, _ | 8, _ | 9, _ | 10, _ | 12, _ | 13, _ => rfl
def begOf (p at_ : Nat) : Nat := if isRow p = true then at_ + 2 else at_ + 1
def spBegin (K : PySem.W.Frag) : Sp := fun vs H Q _ => ∃ (l : Addr) (ns : List Nat) (i p : Nat), vs = [.ref l, iv i] ∧ SqL K H l (ns.map iv) ∧ ns[i]? = some p ∧ served p ∧ Q (iv (begOf p i)) H
def spEndAt (K : PySem.W.Frag) : Sp := fun vs H Q _ => ∃ (l : Addr) (ns : List Nat) (i p n : Nat), vs = [.ref l, iv i] ∧ SqL K H l (ns.map iv) ∧ ns[i]? = some p ∧ served p ∧ (isRow p = true → ns[i + 1]? = some n) ∧ (isRow p = false → n = Gm.cnt p) ∧ Q (iv (begOf p i + n)) H
/-- one call of the machine -/
def spOne (K : PySem.W.Frag) (a : Ad) : Sp := fun vs H Q _ => ∃ (s d : Addr) (A : GA) (g : Ge13.House) (N : Nat) (R : Addr → Prop) (q : Addr) (o : One), vs = [.ref s, iv o.p, .ref q] ∧ H q = some (.lst (o.gv.map iv)) ∧ OneOk o ∧ served o.p ∧
  SesAt K a H s d A g N R ∧ SInv g ∧ N < 1000 ∧ ¬ Part A q ∧
  ∀ (H' : Hp) (A' : GA) (p : Addr), SesAt K a H' s d A' (Ge13.step g o.cl).1 (N + 1) R → Out R H H' → H' p = some (.lst (zv (Ge13.step g o.cl).2)) → ¬ R p → Q (.ref p) H'
section
variable {P : Program} {w : World} {K : PySem.W.Frag} {mg : Str → Option Value} {base : Heap} {a : Ad} (T : Txt K mg a)
include T

theorem c_given_begin : C8.Cal P w K mg base 1 "given_begin" (spBegin K) [] := by
  obtain ⟨f, fd, F, b⟩ := T.d_given_begin
  refine C8.cal0 F b .nil sc_given_begin (fun vs H Q E h => ?len) (fun cdv A0 outer s H vs Q E hr h => ⟨_, (pss_one (ps_ret (pe_ifExp (pt_cmpR op_in_seq (pe_ix ix_list (pv 0) (pv 1) (fun _ _ => rfl)) (C8.pe_gc (by rfl) T.g_ROW_CALLS) (by rfl)) (pe_op op_add (pv 1) pe_int) (pe_op op_add (pv 1) pe_int)))), ?rd⟩)
  case len => obtain ⟨l, ns, i, p, rfl, _⟩ := h; rfl
  case rd =>
    obtain ⟨l, ns, i, p, rfl, hl, hp, hs, k⟩ := h
    have it : Is (tOp (rIxL K) (tVar 0) (tVar 1)) (start nm_given_begin [.ref l, iv i]) H (iv p) := is_ixL (is_var rfl) (is_var rfl) hl (at_iv hp)
    have ts := isT_t (is_inT it is_c (T.q_ROW_CALLS H) rfl (flat_all [0, 11]))
    have e : inV (iv p) (([0, 11] : List Nat).map iv) = isRow p := rows_is hs
    rw [e] at ts
    unfold begOf at k
    by_cases c : isRow p = true
    · rw [if_pos c] at k
      exact s_ret (is_if ts (fun _ => is_to (is_op0 (is_var rfl) is_c) (by omega)) fun z => absurd (z.symm.trans c) (by decide)) k
    · rw [if_neg c] at k
      exact s_ret (is_if ts (fun z => absurd z c) fun _ => is_to (is_op0 (is_var rfl) is_c) (by omega)) k
theorem c_given_end : C8.Cal P w K mg base 2 "given_end" (spEndAt K) [] := by
  obtain ⟨f, fd, F, b⟩ := T.d_given_end
  refine C8.cal0 F b .nil sc_given_end (fun vs H Q E h => ?len) (fun cdv A0 outer s H vs Q E hr h => ⟨_, (pss_cons (ps_set (i := 2) sc_given_end.nd rfl (Or.inl rfl) (pe_ifExp (pt_cmpR op_in_seq (pe_ix ix_list (pv 0) (pv 1) (fun _ _ => rfl)) (C8.pe_gc (by rfl) T.g_ROW_CALLS) (by rfl)) (pe_ix ix_list (pv 0) (pe_op op_add (pv 1) pe_int) (fun _ _ => rfl)) (pe_ix U.ix_kd (C8.pe_gc (by rfl) T.g_GIVEN_COUNTS) (pe_ix ix_list (pv 0) (pv 1) (fun _ _ => rfl)) (fun _ _ => rfl)))) (pss_one (ps_ret (pe_op op_add (C8.pe_c (c_given_begin T) hr (by decide) (by rfl) (pa_cons (pv 0) (pa_cons (pv 1) pa_nil))) (pv 2))))), ?rd⟩)
  case len => obtain ⟨l, ns, i, p, n, rfl, _⟩ := h; rfl
  case rd =>
    obtain ⟨l, ns, i, p, n, rfl, hl, hp, hs, h1, h2, k⟩ := h
    have it : Is (tOp (rIxL K) (tVar 0) (tVar 1)) (start nm_given_end [.ref l, iv i]) H (iv p) := is_ixL (is_var rfl) (is_var rfl) hl (at_iv hp)
    have ts := isT_t (is_inT it is_c (T.q_ROW_CALLS H) rfl (flat_all [0, 11]))
    have e : inV (iv p) (([0, 11] : List Nat).map iv) = isRow p := rows_is hs
    rw [e] at ts
    have cn : Is (tIf (tTest (tOp (rIn K false) (tOp (rIxL K) (tVar 0) (tVar 1)) (tC (.ref a.aROW_CALLS)))) (tOp (rIxL K) (tVar 0) (tOp (rI0 fun i j => .int (i + j)) (tVar 1) (tC (.int 1)))) (tOp (rIxKI K) (tC (.ref a.aGIVEN_COUNTS)) (tOp (rIxL K) (tVar 0) (tVar 1)))) (start nm_given_end [.ref l, iv i]) H (iv n) := by
      by_cases c : isRow p = true
      · refine is_if ts (fun _ => is_ixL (is_var rfl) (is_to (is_op0 (is_var rfl) is_c) (j := ((i + 1 : Nat) : Int)) (by omega)) hl (at_iv (h1 c))) fun z => absurd (z.symm.trans c) (by decide)
      · have c' : isRow p = false := by simpa using c
        refine is_if ts (fun z => absurd z c) fun _ => is_kd is_c it T.q_GIVEN_COUNTS ?_
        rw [h2 c']
        exact cnt_is hs c'
    refine s_seq (s_set cn ?_)
    have bg : ∀ σ : L2.St, σ[0]? = some (some (.ref l)) → σ[1]? = some (some (iv i)) → Is (tCall (spBegin K) [] C8.E0 (tCons (tVar 0) (tCons (tVar 1) tNil))) σ H (iv (begOf p i)) := fun σ s0 s1 =>
      is_call (vs := [.ref l, iv i]) (isA_cons (is_var s0) (isA_cons (is_var s1) isA_nil)) fun Q' E' q => ⟨l, ns, i, p, rfl, hl, hp, hs, q⟩
    dsimp only
    refine s_ret (v := iv (begOf p i + n)) ?_ k
    refine is_to (is_op0 (bg _ rfl rfl) (is_var (v := iv n) rfl)) ?_
    omega
theorem c_answer_call : C8.Cal P w K mg base 9 "answer_call" (spOne K a) [] := by
  obtain ⟨f, fd, F, b⟩ := T.d_answer_call
  refine C8.cal0 F b .nil sc_answer_call (fun vs H Q E h => ?len) (fun cdv A0 outer s H vs Q E hr h => ⟨_, (pss_one (ps_ret (U.pe_callE (k := 8) (pe_ix ix_tup (C8.pe_gc (by rfl) T.g_CALLS) (pv 1) (fun _ _ => rfl)) hr (by decide) (pa_cons (pv 0) (pa_cons (pv 2) pa_nil))))), ?rd⟩)
  case len => obtain ⟨s, d, A, g, N, R, q, o, rfl, _⟩ := h; rfl
  case rd =>
    obtain ⟨s, d, A, g, N, R, q, ⟨p, gv, cl⟩, rfl, hq, ok, hs, h, hv, hN, hap, k⟩ := h
    have go : ∀ (f : Addr) (na : List V → Hp → Option Ge13.Call → Prop), [V.ref a.f_answer_cave, .ref a.f_answer_hold, .ref a.f_answer_frame, .ref a.f_answer_speed, .ref a.f_answer_save, .ref a.f_answer_load, .ref a.f_answer_shows, .ref a.f_answer_place, .ref a.f_answer_seen, .ref a.f_answer_back, .ref a.f_answer_keys, .ref a.f_answer_play, .ref a.f_answer_counts, .ref a.f_answer_differ][p]? = some (.ref f) →
        C8.CalAt P w K mg base 8 f (spAns K a na) → na [.ref q] H (some cl) → tRet (tCallE P w K mg base 8 (tOp (rIxT K) (tC (.ref a.aCALLS)) (tVar 1)) (tCons (tVar 0) (tCons (tVar 2) tNil))) { nx := fun _ H' => Q .non H', rt := Q } (start nm_answer_call [.ref s, iv p, .ref q]) H := fun f na e cat hna =>
      (is_ixT is_c (is_var rfl) (T.q_CALLS H) (atI_nat e)) _ ⟨f, _, rfl, cat, (isA_cons (is_var rfl) (isA_cons (is_var rfl) isA_nil)) _ ⟨s, d, A, g, N, R, [.ref q], cl, rfl, hna, h, hv, hN, fun b hb => by
        cases List.mem_singleton.mp hb
        exact hap, k⟩⟩
    have h6 : p ≤ 13 := hs
    have hc := ok.call
    have hn := ok.num
    dsimp only at hc hn
    have num1 : isRow p = false → Gm.cnt p = 1 → ∃ n, gv = [n] := fun z1 z2 => len1 ((hn z1).trans z2)
    match p, h6 with
    | 0, _ =>
      cases hc
      exact go _ txtA rfl (calAt_of (c_answer_cave T) T.m_answer_cave (by decide)) ⟨q, gv, rfl, hq, by have := ok.small; dsimp only at this; omega, rfl⟩
    | 1, _ =>
      obtain ⟨n, rfl⟩ := num1 rfl rfl
      cases hc
      exact go _ (one .hold) rfl (calAt_of (c_answer_hold T) T.m_answer_hold (by decide)) ⟨q, n, [], rfl, hq, rfl⟩
    | 2, _ =>
      obtain ⟨n, rfl⟩ := num1 rfl rfl
      cases hc
      exact go _ (one .frame) rfl (calAt_of (c_answer_frame T) T.m_answer_frame (by decide)) ⟨q, n, [], rfl, hq, rfl⟩
    | 3, _ =>
      obtain ⟨n, rfl⟩ := num1 rfl rfl
      cases hc
      exact go _ (one .speed) rfl (calAt_of (c_answer_speed T) T.m_answer_speed (by decide)) ⟨q, n, [], rfl, hq, rfl⟩
    | 4, _ =>
      obtain ⟨n, rfl⟩ := num1 rfl rfl
      cases hc
      exact go _ (one .save) rfl (calAt_of (c_answer_save T) T.m_answer_save (by decide)) ⟨q, n, [], rfl, hq, rfl⟩
    | 5, _ =>
      obtain ⟨n, rfl⟩ := num1 rfl rfl
      cases hc
      exact go _ (one .load) rfl (calAt_of (c_answer_load T) T.m_answer_load (by decide)) ⟨q, n, [], rfl, hq, rfl⟩
    | 6, _ =>
      have e0 : gv = [] := len0 ((hn rfl).trans rfl)
      subst e0
      cases hc
      exact go _ (any0 .shows) rfl (calAt_of (c_answer_shows T) T.m_answer_shows (by decide)) ⟨q, rfl, rfl⟩
    | 7, _ =>
      obtain ⟨n, m, rfl⟩ := len2 ((hn rfl).trans rfl)
      cases hc
      exact go _ (two .place) rfl (calAt_of (c_answer_place T) T.m_answer_place (by decide)) ⟨q, n, m, [], rfl, hq, rfl⟩
    | 8, _ =>
      obtain ⟨n, rfl⟩ := num1 rfl rfl
      cases hc
      exact go _ (one .seen) rfl (calAt_of (c_answer_seen T) T.m_answer_seen (by decide)) ⟨q, n, [], rfl, hq, rfl⟩
    | 9, _ =>
      obtain ⟨n, rfl⟩ := num1 rfl rfl
      cases hc
      exact go _ (one .back) rfl (calAt_of (c_answer_back T) T.m_answer_back (by decide)) ⟨q, n, [], rfl, hq, rfl⟩
    | 10, _ =>
      have e0 : gv = [] := len0 ((hn rfl).trans rfl)
      subst e0
      cases hc
      exact go _ (any0 .keys) rfl (calAt_of (c_answer_keys T) T.m_answer_keys (by decide)) ⟨q, rfl, rfl⟩
    | 11, _ =>
      cases hc
      exact go _ playA rfl (calAt_of (c_answer_play T) T.m_answer_play (by decide)) ⟨q, gv, rfl, hq, by have := ok.small; dsimp only at this; omega, rfl⟩
    | 12, _ =>
      have e0 : gv = [] := len0 ((hn rfl).trans rfl)
      subst e0
      cases hc
      exact go _ (any0 .counts) rfl (calAt_of (c_answer_counts T) T.m_answer_counts (by decide)) ⟨q, rfl, rfl⟩
    | 13, _ =>
      obtain ⟨n, rfl⟩ := num1 rfl rfl
      cases hc
      exact go _ (one .differ) rfl (calAt_of (c_answer_differ T) T.m_answer_differ (by decide)) ⟨q, n, [], rfl, hq, rfl⟩
end
end G

set_option Elab.async false
set_option linter.all false
set_option maxRecDepth 100000
set_option maxHeartbeats 4000000
namespace G
open PySem PySem.Spec PyProof.Rows L2
open Ge13 (at_ put gems beside cellTo Marks goTo playerTurn stoneTurn monsterTurn)
open Gm
open U

/-! ### where a call stands in the list -/
theorem flats_cons (o : One) (cs : List One) : flats (o :: cs) = flat1 o ++ flats cs := rfl
theorem flats_app (l m : List One) : flats (l ++ m) = flats l ++ flats m := by unfold flats; rw [List.flatMap_append]
/-- the i-th call, and what is before and behind it -/
theorem flats_at {cs : List One} {i : Nat} {o : One} (h : cs[i]? = some o) : flats cs = flats (cs.take i) ++ (flat1 o ++ flats (cs.drop (i + 1))) := by
  obtain ⟨h1, h2⟩ := List.getElem?_eq_some_iff.mp h
  have e : cs = cs.take i ++ (o :: cs.drop (i + 1)) := by
    rw [← h2, List.getElem_cons_drop, List.take_append_drop]
  conv => lhs; rw [e]
  rw [flats_app, flats_cons]
theorem get_mid {α : Type} (x y z : List α) (j : Nat) (h : j < y.length) : (x ++ (y ++ z))[x.length + j]? = y[j]? := by
  rw [List.getElem?_append_right (by omega), Nat.add_sub_cancel_left, List.getElem?_append_left h]
theorem flat1_len (o : One) : (flat1 o).length = (if isRow o.p = true then 2 else 1) + o.gv.length := by
  unfold flat1
  split <;> simp <;> omega
theorem flat1_0 (o : One) : (flat1 o)[0]? = some o.p := by
  unfold flat1
  split <;> rfl
theorem flat1_1 {o : One} (h : isRow o.p = true) : (flat1 o)[1]? = some o.gv.length := by
  unfold flat1
  rw [if_pos h]
  rfl
theorem flat1_drop (o : One) : (flat1 o).drop (if isRow o.p = true then 2 else 1) = o.gv := by
  unfold flat1
  split <;> rfl
/-- what is given with the i-th call -/
theorem given_cut {cs : List One} {i : Nat} {o : One} (h : cs[i]? = some o) : cutV ((flats cs).map iv) (some ((begOf o.p (flats (cs.take i)).length : Nat) : Int)) (some ((begOf o.p (flats (cs.take i)).length + o.gv.length : Nat) : Int)) = o.gv.map iv := by
  have e := flats_at h
  have l1 := flat1_len o
  have d1 := flat1_drop o
  have eb : begOf o.p (flats (cs.take i)).length = (flats (cs.take i)).length + (if isRow o.p = true then 2 else 1) := by
    unfold begOf
    split <;> rfl
  generalize flats (cs.take i) = x at e eb
  generalize flats (cs.drop (i + 1)) = z at e
  generalize (if isRow o.p = true then 2 else 1) = k at l1 d1 eb
  unfold cutV
  have hl : ((flats cs).map iv).length = x.length + ((flat1 o).length + z.length) := by rw [List.length_map, e, List.length_append, List.length_append]
  rw [HT.sIx_nat, HT.sIx_nat, hl, Nat.min_eq_left (by omega), Nat.min_eq_left (by omega), Nat.add_sub_cancel_left, ← List.map_drop, ← List.map_take, eb, e]
  congr 1
  rw [← List.drop_drop, List.drop_left, List.drop_append_of_le_length (by omega), d1, List.take_left]
theorem outs_len : ∀ (l : List Ge13.Call) {s : Ge13.House}, SInv s → (outs s l).length ≤ l.length * 1001
  | [], _, _ => Nat.le_refl _
  | c :: l, s, h => by
    have h1 := step_len h c
    have h2 := outs_len l (step_inv h c)
    show (((Ge13.step s c).2.length : Int) :: ((Ge13.step s c).2 ++ outs (Ge13.step s c).1 l)).length ≤ _
    rw [List.length_cons, List.length_append, List.length_cons, Nat.add_mul]
    omega
theorem runs_inv : ∀ (l : List Ge13.Call) {s : Ge13.House}, SInv s → SInv (runs s l)
  | [], _, h => h
  | c :: l, s, h => runs_inv l (step_inv h c)
theorem take_cls {cs : List One} {i : Nat} {o : One} (h : cs[i]? = some o) : (cs.take (i + 1)).map One.cl = (cs.take i).map One.cl ++ [o.cl] := by
  rw [take_snoc h, List.map_append]
  rfl
def spAnswers (K : PySem.W.Frag) : Sp := fun vs H Q _ => ∃ (l : Addr) (cs : List One), vs = [.ref l] ∧ SqL K H l ((flats cs).map iv) ∧ (∀ o ∈ cs, OneOk o ∧ served o.p) ∧ cs.length ≤ 40 ∧
  ∀ H' p, H' p = some (.lst (zv (outs Ge13.init (cs.map One.cl)))) → Q (.ref p) H'
/-- what must stay: the list that is built, and the request -/
def Keep (H : Hp) (t l : Addr) : Addr → Prop := fun b => b = t ∨ (b = l ∧ ∃ o, H l = some o)
theorem keep_l {K : PySem.W.Frag} {H H' : Hp} {l : Addr} {xs : List V} (h : SqL K H l xs) (k : ∀ o, H l = some o → H' l = some o) : SqL K H' l xs := by
  rcases h with (h | ⟨u, h⟩) | h
  · exact .inl (.inl (k _ h))
  · exact .inl (.inr ⟨u, k _ h⟩)
  · exact .inr h
/-- where the loop stands -/
def atS (σ : L2.St) : Nat := match σ[3]? with
  | some (some (V.int z)) => z.toNat
  | _ => 0
/-- the list that is built grows: all else stands -/
theorem SesAt.grow {K : PySem.W.Frag} {a : Ad} {H : Hp} {s d t : Addr} {A : GA} {g : Ge13.House} {N : Nat} {R : Addr → Prop} {xs ys : List V} (h : SesAt K a H s d A g N R) (ht : H t = some (.lst xs)) (r : R t) : SesAt K a (upd H t (.lst ys)) s d A g N R := by
  have up : ∀ {B : GA} {y : Ge13.Game}, GameAt K a H B y → Ap R B → GameAt K a (upd H t (.lst ys)) B y := fun {B y} hB ap => hB.mono fun b o e p => by
    rw [upd_ne fun z => ap t r (by rw [← z]; exact p)]
    exact e
  obtain ⟨kvs, e, hl, hk⟩ := h.kp
  obtain ⟨ns, nd, _⟩ := h.rs t r
  refine ⟨ob_up h.ob ns.symm, up h.gm h.ap, ⟨kvs, by rw [upd_ne nd.symm]; exact e, hl, fun n => ?_⟩, h.ap, fun b hb => ?_⟩
  · have q := hk n
    cases e3 : Ge13.slot g n with
    | none =>
      rw [e3] at q
      exact q
    | some y =>
      rw [e3] at q
      obtain ⟨B, q1, q2, q3, q4⟩ := q
      exact ⟨B, q1, up q2 q4, q3, q4⟩
  · obtain ⟨h1, h2, o, e⟩ := h.rs b hb
    by_cases z : b = t
    · exact ⟨h1, h2, _, by rw [z, upd_same]⟩
    · exact ⟨h1, h2, o, by rw [upd_ne z]; exact e⟩
/-- x = f(s, n, xs[i:j]) -/
theorem s_setOne {K : PySem.W.Frag} {σ : L2.St} {H : Hp} {D : Ends} {sp : Sp} {E : XK} {t1 t2 tl tlo thi : TE} {v1 v2 : V} {k : Nat} {p : Addr} {xs : List V} {i j : Int} (h1 : Is t1 σ H v1) (h2 : Is t2 σ H v2) (hp : Is tl σ H (.ref p)) (hl : SqL K H p xs) (hi : Is tlo σ H (.int i)) (hj : Is thi σ H (.int j))
    (q : ∀ c, H c = none → sp [v1, v2, .ref c] (upd H c (.lst (cutV xs (some i) (some j)))) (fun y H1 => D.nx (σ.set k (some y)) H1) E) : tAsg (tCall sp [] E (tCons t1 (tCons t2 (tCons (tSl (rSlL K) tl (tPart tlo) (tPart thi)) tNil)))) (gName k) D σ H :=
  h1 _ (h2 _ (hp _ (hi _ ⟨i, rfl, hj _ ⟨j, rfl, p, xs, rfl, hl, q⟩⟩)))
section
variable {P : Program} {w : World} {K : PySem.W.Frag} {mg : Str → Option Value} {base : Heap} {a : Ad} (T : Txt K mg a)
include T

theorem ok_answers {f : Addr} {fd : FuncData} (F : C8.Def K mg "answers" s_answers f fd) : FnOk P w K mg base C8.CX0 10 f fd ["calls"] (spAnswers K) := by
  refine C8.fn0 F.fn sc_answers (fun vs H Q E h => ?len) (fun cdv A0 outer s H vs Q E hr h => ⟨_, (pss_cons (ps_set (i := 1) sc_answers.nd rfl (Or.inl rfl) (U.pe_mk0 (c_Session T) hr (by decide) (by rfl))) (pss_cons (ps_set (i := 2) sc_answers.nd rfl (Or.inl rfl) (pe_lst pa_nil)) (pss_cons (ps_set (i := 3) sc_answers.nd rfl (Or.inl rfl) pe_int) (pss_cons (ps_while PassesOwn.never (pt_cmpR op_lt (pv 3) (pe_callB call_len_seq (by rfl) T.n_len (by decide +kernel) (pa_cons (pv 0) pa_nil)) (nomark _)) (pss_cons (ps_set (i := 4) sc_answers.nd rfl (Or.inl rfl) (C8.pe_c (c_given_end T) hr (by decide) (by rfl) (pa_cons (pv 0) (pa_cons (pv 3) pa_nil)))) (pss_cons (ps_set (i := 5) sc_answers.nd rfl (Or.inl rfl) (C8.pe_c (c_answer_call T) hr (by decide) (by rfl) (pa_cons (pv 1) (pa_cons (pe_ix ix_list (pv 0) (pv 3) (fun _ _ => rfl)) (pa_cons (pe_slice sl_list (pv 0) (po_some (C8.pe_c (c_given_begin T) hr (by decide) (by rfl) (pa_cons (pv 0) (pa_cons (pv 3) pa_nil)))) (po_some (pv 4))) pa_nil))))) (pss_cons (ps_expr (pe_bm PySem.F.plainAttrs_list PySem.F.slot_list_append PySem.F.type_list_append mt_append (pv 2) (pa_cons (pe_callB call_len_seq (by rfl) T.n_len (by decide +kernel) (pa_cons (pv 5) pa_nil)) pa_nil))) (pss_cons (ps_expr (pe_bm PySem.F.plainAttrs_list PySem.F.slot_list_extend PySem.F.type_list_extend mt_extend (pv 2) (pa_cons (pv 5) pa_nil))) (pss_one (ps_set (i := 3) sc_answers.nd rfl (Or.inl rfl) (pv 4)))))))) (pss_one (ps_ret (pv 2))))))), ?rd⟩)
  case len => obtain ⟨l, cs, rfl, _⟩ := h; rfl
  case rd =>
    obtain ⟨l, cs, rfl, hl, hok, h40, k⟩ := h
    refine s_seq (s_setMake' (a_nil fun s dx hs hdx nds => ?_))
    have sm0 : Same H (upd (upd H dx (.own s)) s (.ins a.cSession dx [])) := fun b o hb => by
      rw [upd_ne (ne_of_none hb hs), upd_ne (ne_of_none hb hdx)]
      exact hb
    refine ⟨s, dx, rfl, upd_same, fun H1 d A ob hd hg nw dz nd sx => ⟨rfl, ?_⟩⟩
    have sm1 : Same H H1 := made_same hs hdx sx
    refine s_seq (s_setLst isA_nil (Nat.zero_le _) fun t ht => ?_)
    have sm2 : Same H1 (upd H1 t (.lst [])) := same_new ht
    have ht2 : upd H1 t (.lst []) t = some (.lst []) := upd_same
    have tn : ∀ q o, H1 q = some o → t ≠ q := fun q o hq => (ne_of_none hq ht).symm
    have ln : ∀ q, (upd (upd H dx (.own s)) s (.ins a.cSession dx [])) q = none → ∀ o, H l = some o → l ≠ q := fun q hq o hlo => ne_of_none (sm0 _ _ hlo) hq
    have ses : SesAt K a (upd H1 t (.lst [])) s d A Ge13.init 0 (Keep H t l) := by
      obtain ⟨s0, es⟩ := ob
      refine ⟨ob_same ⟨s0, es⟩ sm2, hg.same sm2, ⟨[], sm2 _ _ hd, Nat.le_refl _, fun n => rfl⟩, ?_, ?_⟩
      · rintro b (rfl | ⟨rfl, o, hlo⟩) p
        · exact dead ht (hg.live p)
        · have lo := sm0 _ _ hlo
          rcases p with q | q
          · exact dead (nw.own q) ⟨_, lo⟩
          · exact dead (dz _ q) ⟨_, lo⟩
      · rintro b (rfl | ⟨rfl, o, hlo⟩)
        · exact ⟨tn _ _ es, tn _ _ hd, _, ht2⟩
        · exact ⟨ne_of_none hlo hs, ln _ nd _ hlo, o, sm2 _ _ (sm1 _ _ hlo)⟩
    have out0 : Out (Keep H t l) H (upd H1 t (.lst [])) := Out.same (sm1.trans sm2)
    generalize upd H1 t (.lst []) = H2 at ses out0 ht2
    refine s_seq (s_set is_c ?_)
    have total : ((flats cs).map iv).length = (flats cs).length := List.length_map ..
    refine s_seq ?_
    refine while_by (fun σ H' => ∃ (i : Nat) (A' : GA) (u4 u5 : Option V), σ = [some (.ref l), some (.ref s), some (.ref t), some (iv (flats (cs.take i)).length), u4, u5] ∧ i ≤ cs.length ∧
        SesAt K a H' s d A' (runs Ge13.init ((cs.take i).map One.cl)) i (Keep H t l) ∧ H' t = some (.lst (zv (outs Ge13.init ((cs.take i).map One.cl)))) ∧ (∀ o, H l = some o → H' l = some o))
      (fun σ _ => (flats cs).length - atS σ) ?_ ?_ ?_
    · exact ⟨0, A, none, none, rfl, Nat.zero_le _, ses, ht2, fun o hlo => out0 _ _ (.inr ⟨rfl, o, hlo⟩) hlo⟩
    · rintro σ H3 ⟨i, A', u4, u5, rfl, hi, hs3, ht3, hk3⟩
      have hl3 := keep_l hl hk3
      have tst := isT_op (p := fun i j => decide (i < j)) (is_var (σ := [some (.ref l), some (.ref s), some (.ref t), some (iv (flats (cs.take i)).length), u4, u5]) (H := H3) (i := 3) rfl) (is_len (is_var (i := 0) rfl) hl3)
      refine tst _ ?_
      rw [total]
      by_cases he : i = cs.length
      · subst he
        rw [List.take_length, decide_eq_false (by omega)]
        refine iteF ?_
        rw [List.take_length] at ht3
        exact s_ret (is_var rfl) (k H3 t ht3)
      · have hil : i < cs.length := by omega
        obtain ⟨o, ho⟩ : ∃ o, cs[i]? = some o := ⟨_, List.getElem?_eq_getElem hil⟩
        obtain ⟨ok, sv⟩ := hok o (List.mem_of_getElem? ho)
        have ef := flats_at ho
        have l1 := flat1_len o
        have l1p : 1 ≤ (flat1 o).length := by rw [l1]; split <;> omega
        have elen : (flats cs).length = (flats (cs.take i)).length + ((flat1 o).length + (flats (cs.drop (i + 1))).length) := by
          conv => lhs; rw [ef]
          rw [List.length_append, List.length_append]
        have e0 : (flats cs)[(flats (cs.take i)).length]? = some o.p := by
          have z := get_mid (flats (cs.take i)) (flat1 o) (flats (cs.drop (i + 1))) 0 (by omega)
          rw [← ef, flat1_0, Nat.add_zero] at z
          exact z
        have e1 : isRow o.p = true → (flats cs)[(flats (cs.take i)).length + 1]? = some o.gv.length := fun hr => by
          have z := get_mid (flats (cs.take i)) (flat1 o) (flats (cs.drop (i + 1))) 1 (by rw [l1, if_pos hr]; omega)
          rw [← ef, flat1_1 hr] at z
          exact z
        have enext : (flats (cs.take (i + 1))).length = begOf o.p (flats (cs.take i)).length + o.gv.length := by
          rw [take_snoc ho, flats_app, List.length_append]
          show _ + (flats [o]).length = _
          have : flats [o] = flat1 o := by simp [flats]
          rw [this, l1]
          unfold begOf
          split <;> omega
        have gcut := given_cut ho
        have hv := runs_inv ((cs.take i).map One.cl) init_inv
        rw [decide_eq_true (by omega)]
        refine iteT ?_
        refine s_seq (s_set (is_call (vs := [.ref l, iv (flats (cs.take i)).length]) (v := iv (begOf o.p (flats (cs.take i)).length + o.gv.length)) (isA_cons (is_var rfl) (isA_cons (is_var rfl) isA_nil)) fun Q' E' q => ⟨l, flats cs, _, o.p, o.gv.length, rfl, hl3, e0, sv, e1, fun z => ok.num z, q⟩) ?_)
        have bg : ∀ σ : L2.St, σ[0]? = some (some (.ref l)) → σ[3]? = some (some (iv (flats (cs.take i)).length)) → Is (tCall (spBegin K) [] C8.E0 (tCons (tVar 0) (tCons (tVar 3) tNil))) σ H3 (iv (begOf o.p (flats (cs.take i)).length)) := fun σ s0 s3 =>
          is_call (vs := [.ref l, iv (flats (cs.take i)).length]) (isA_cons (is_var s0) (isA_cons (is_var s3) isA_nil)) fun Q' E' q => ⟨l, flats cs, _, o.p, rfl, hl3, e0, sv, q⟩
        refine s_seq (s_setOne (is_var rfl) (is_ixL (is_var rfl) (is_var rfl) hl3 (at_iv e0)) (is_var rfl) hl3 (bg _ rfl rfl) (is_var rfl) fun q hq => ?_)
        rw [gcut]
        have smq := same_new (o := .lst (o.gv.map iv)) hq
        refine ⟨s, d, A', _, i, Keep H t l, q, o, rfl, upd_same, ok, sv, hs3.same smq, hv, by omega, fun pq => dead hq (hs3.gm.live pq), fun H4 A4 p hs4 o4 hp4 nr => ?_⟩
        have ht4 : H4 t = some (.lst (zv (outs Ge13.init ((cs.take i).map One.cl)))) := o4 _ _ (.inl rfl) (smq _ _ ht3)
        have outsl := outs_len ((cs.take i).map One.cl) init_inv
        have stepl := step_len hv o.cl
        rw [List.length_map, List.length_take] at outsl
        have big : (outs Ge13.init ((cs.take i).map One.cl)).length ≤ 40040 := Nat.le_trans outsl (Nat.le_trans (Nat.mul_le_mul_right 1001 (by omega : min i cs.length ≤ 40)) (by decide))
        have npt : p ≠ t := fun z => nr (.inl z)
        have lna : ∀ σ : L2.St, σ[5]? = some (some (.ref p)) → Is (tCB (U.rLen K) (tCons (tVar 5) tNil)) σ H4 (.int (((Ge13.step (runs Ge13.init ((cs.take i).map One.cl)) o.cl).2.length : Nat) : Int)) := fun σ s5 => is_to (is_len (is_var s5) (SqL.of hp4)) (by unfold zv; rw [List.length_map])
        refine s_seq (s_append (is_var rfl) (isA_cons (lna _ rfl) isA_nil) ht4 (by unfold zv; rw [List.length_map]; exact Nat.lt_of_le_of_lt big (by decide)) ?_)
        have hs5 := hs4.grow (ys := zv (outs Ge13.init ((cs.take i).map One.cl)) ++ [.int (((Ge13.step (runs Ge13.init ((cs.take i).map One.cl)) o.cl).2.length : Nat) : Int)]) ht4 (.inl rfl)
        refine s_seq (s_ext (is_var rfl) upd_same (is_var rfl) (by rw [upd_ne npt]; exact hp4) ?_ ?_)
        · unfold zv
          rw [List.length_append, List.length_map, List.length_map]
          exact Nat.le_trans (Nat.add_le_add (Nat.add_le_add_right big 1) stepl) (by decide)
        · have hs6 := hs5.grow (ys := (zv (outs Ge13.init ((cs.take i).map One.cl)) ++ [.int (((Ge13.step (runs Ge13.init ((cs.take i).map One.cl)) o.cl).2.length : Nat) : Int)]) ++ zv (Ge13.step (runs Ge13.init ((cs.take i).map One.cl)) o.cl).2) upd_same (.inl rfl)
          refine s_set (is_var rfl) ⟨⟨i + 1, A4, some (iv (begOf o.p (flats (cs.take i)).length + o.gv.length)), some (.ref p), ?_, by omega, ?_, ?_, ?_⟩, ?_⟩
          · rw [enext]
            rfl
          · rw [take_cls ho, runs_snoc]
            exact hs6
          · rw [upd_same, take_cls ho, outs_snoc]
            unfold zv
            simp
          · intro o' hlo
            have h3 := hk3 o' hlo
            have nlt : l ≠ t := fun z => by
              have q1 := sm1 _ _ hlo
              rw [z, ht] at q1
              cases q1
            rw [upd_ne nlt, upd_ne nlt]
            exact o4 _ _ (.inr ⟨rfl, o', hlo⟩) (smq _ _ h3)
          · show (flats cs).length - ((((begOf o.p (flats (cs.take i)).length + o.gv.length : Nat) : Int)).toNat) < (flats cs).length - ((((flats (cs.take i)).length : Nat) : Int)).toNat
            rw [Int.toNat_natCast, Int.toNat_natCast]
            have : (flats (cs.take i)).length < begOf o.p (flats (cs.take i)).length + o.gv.length := by
              unfold begOf
              split <;> omega
            omega
    · intro σ H' Q1 Q2 hq hc
      obtain ⟨v, e1, x, e2, p, ys, e3, h3, i, j, e4, e5, k', e6, q1⟩ := hc
      exact ⟨v, e1, x, e2, p, ys, e3, h3, i, j, e4, e5, k', e6, hq _ _ q1⟩
end
end G

set_option Elab.async false
set_option linter.all false
set_option maxRecDepth 100000
set_option maxHeartbeats 8000000
namespace G
open PySem PySem.Spec PyProof.Rows L2
theorem txt_mk {P : Program} {w : World} {K : PySem.W.Frag} {h : Heap} {mg : Str → Option Value} {fa : Addr} (X : K.In h) (G : h.Ns mainGlobals mg) (hfa : mg "answers" = some (.ref fa))
    {f_is_known_byte : Addr} {oc_is_known_byte kV_is_known_byte dc_is_known_byte pm_is_known_byte cd_is_known_byte ct_is_known_byte : Value} {od_is_known_byte an_is_known_byte : Option Addr} {sl_is_known_byte : Array (Option Value)}
    {f_byte_of : Addr} {oc_byte_of kV_byte_of dc_byte_of pm_byte_of cd_byte_of ct_byte_of : Value} {od_byte_of an_byte_of : Option Addr} {sl_byte_of : Array (Option Value)}
    {f_thing_of : Addr} {oc_thing_of kV_thing_of dc_thing_of pm_thing_of cd_thing_of ct_thing_of : Value} {od_thing_of an_thing_of : Option Addr} {sl_thing_of : Array (Option Value)}
    {f_count_kinds : Addr} {oc_count_kinds kV_count_kinds dc_count_kinds pm_count_kinds cd_count_kinds ct_count_kinds : Value} {od_count_kinds an_count_kinds : Option Addr} {sl_count_kinds : Array (Option Value)}
    {f_is_lying : Addr} {oc_is_lying kV_is_lying dc_is_lying pm_is_lying cd_is_lying ct_is_lying : Value} {od_is_lying an_is_lying : Option Addr} {sl_is_lying : Array (Option Value)}
    {f_is_falling : Addr} {oc_is_falling kV_is_falling dc_is_falling pm_is_falling cd_is_falling ct_is_falling : Value} {od_is_falling an_is_falling : Option Addr} {sl_is_falling : Array (Option Value)}
    {f_is_gem : Addr} {oc_is_gem kV_is_gem dc_is_gem pm_is_gem cd_is_gem ct_is_gem : Value} {od_is_gem an_is_gem : Option Addr} {sl_is_gem : Array (Option Value)}
    {f_is_monster : Addr} {oc_is_monster kV_is_monster dc_is_monster pm_is_monster cd_is_monster ct_is_monster : Value} {od_is_monster an_is_monster : Option Addr} {sl_is_monster : Array (Option Value)}
    {f_lying : Addr} {oc_lying kV_lying dc_lying pm_lying cd_lying ct_lying : Value} {od_lying an_lying : Option Addr} {sl_lying : Array (Option Value)}
    {f_falling : Addr} {oc_falling kV_falling dc_falling pm_falling cd_falling ct_falling : Value} {od_falling an_falling : Option Addr} {sl_falling : Array (Option Value)}
    {f_stride : Addr} {oc_stride kV_stride dc_stride pm_stride cd_stride ct_stride : Value} {od_stride an_stride : Option Addr} {sl_stride : Array (Option Value)}
    {f_steps : Addr} {oc_steps kV_steps dc_steps pm_steps cd_steps ct_steps : Value} {od_steps an_steps : Option Addr} {sl_steps : Array (Option Value)}
    {f_row_begin : Addr} {oc_row_begin kV_row_begin dc_row_begin pm_row_begin cd_row_begin ct_row_begin : Value} {od_row_begin an_row_begin : Option Addr} {sl_row_begin : Array (Option Value)}
    {f_row_of : Addr} {oc_row_of kV_row_of dc_row_of pm_row_of cd_row_of ct_row_of : Value} {od_row_of an_row_of : Option Addr} {sl_row_of : Array (Option Value)}
    {f_is_within : Addr} {oc_is_within kV_is_within dc_is_within pm_is_within cd_is_within ct_is_within : Value} {od_is_within an_is_within : Option Addr} {sl_is_within : Array (Option Value)}
    {f_thing_at : Addr} {oc_thing_at kV_thing_at dc_thing_at pm_thing_at cd_thing_at ct_thing_at : Value} {od_thing_at an_thing_at : Option Addr} {sl_thing_at : Array (Option Value)}
    {f_copy_cave : Addr} {oc_copy_cave kV_copy_cave dc_copy_cave pm_copy_cave cd_copy_cave ct_copy_cave : Value} {od_copy_cave an_copy_cave : Option Addr} {sl_copy_cave : Array (Option Value)}
    {f_are_same_caves : Addr} {oc_are_same_caves kV_are_same_caves dc_are_same_caves pm_are_same_caves cd_are_same_caves ct_are_same_caves : Value} {od_are_same_caves an_are_same_caves : Option Addr} {sl_are_same_caves : Array (Option Value)}
    {f_count_gems : Addr} {oc_count_gems kV_count_gems dc_count_gems pm_count_gems cd_count_gems ct_count_gems : Value} {od_count_gems an_count_gems : Option Addr} {sl_count_gems : Array (Option Value)}
    {f_count_things : Addr} {oc_count_things kV_count_things dc_count_things pm_count_things cd_count_things ct_count_things : Value} {od_count_things an_count_things : Option Addr} {sl_count_things : Array (Option Value)}
    {f_split_rows : Addr} {oc_split_rows kV_split_rows dc_split_rows pm_split_rows cd_split_rows ct_split_rows : Value} {od_split_rows an_split_rows : Option Addr} {sl_split_rows : Array (Option Value)}
    {f_has_strange_byte : Addr} {oc_has_strange_byte kV_has_strange_byte dc_has_strange_byte pm_has_strange_byte cd_has_strange_byte ct_has_strange_byte : Value} {od_has_strange_byte an_has_strange_byte : Option Addr} {sl_has_strange_byte : Array (Option Value)}
    {f_has_uneven_rows : Addr} {oc_has_uneven_rows kV_has_uneven_rows dc_has_uneven_rows pm_has_uneven_rows cd_has_uneven_rows ct_has_uneven_rows : Value} {od_has_uneven_rows an_has_uneven_rows : Option Addr} {sl_has_uneven_rows : Array (Option Value)}
    {f_has_wrong_size : Addr} {oc_has_wrong_size kV_has_wrong_size dc_has_wrong_size pm_has_wrong_size cd_has_wrong_size ct_has_wrong_size : Value} {od_has_wrong_size an_has_wrong_size : Option Addr} {sl_has_wrong_size : Array (Option Value)}
    {f_find_fault : Addr} {oc_find_fault kV_find_fault dc_find_fault pm_find_fault cd_find_fault ct_find_fault : Value} {od_find_fault an_find_fault : Option Addr} {sl_find_fault : Array (Option Value)}
    {f_read_cave : Addr} {oc_read_cave kV_read_cave dc_read_cave pm_read_cave cd_read_cave ct_read_cave : Value} {od_read_cave an_read_cave : Option Addr} {sl_read_cave : Array (Option Value)}
    {f_write_cave : Addr} {oc_write_cave kV_write_cave dc_write_cave pm_write_cave cd_write_cave ct_write_cave : Value} {od_write_cave an_write_cave : Option Addr} {sl_write_cave : Array (Option Value)}
    {f_copy_standing : Addr} {oc_copy_standing kV_copy_standing dc_copy_standing pm_copy_standing cd_copy_standing ct_copy_standing : Value} {od_copy_standing an_copy_standing : Option Addr} {sl_copy_standing : Array (Option Value)}
    {f_stand_alike : Addr} {oc_stand_alike kV_stand_alike dc_stand_alike pm_stand_alike cd_stand_alike ct_stand_alike : Value} {od_stand_alike an_stand_alike : Option Addr} {sl_stand_alike : Array (Option Value)}
    {f_is_over : Addr} {oc_is_over kV_is_over dc_is_over pm_is_over cd_is_over ct_is_over : Value} {od_is_over an_is_over : Option Addr} {sl_is_over : Array (Option Value)}
    {f_run_tick : Addr} {oc_run_tick kV_run_tick dc_run_tick pm_run_tick cd_run_tick ct_run_tick : Value} {od_run_tick an_run_tick : Option Addr} {sl_run_tick : Array (Option Value)}
    {f_take_turn : Addr} {oc_take_turn kV_take_turn dc_take_turn pm_take_turn cd_take_turn ct_take_turn : Value} {od_take_turn an_take_turn : Option Addr} {sl_take_turn : Array (Option Value)}
    {f_go : Addr} {oc_go kV_go dc_go pm_go cd_go ct_go : Value} {od_go an_go : Option Addr} {sl_go : Array (Option Value)}
    {f_end : Addr} {oc_end kV_end dc_end pm_end cd_end ct_end : Value} {od_end an_end : Option Addr} {sl_end : Array (Option Value)}
    {f_score : Addr} {oc_score kV_score dc_score pm_score cd_score ct_score : Value} {od_score an_score : Option Addr} {sl_score : Array (Option Value)}
    {f_turn_player : Addr} {oc_turn_player kV_turn_player dc_turn_player pm_turn_player cd_turn_player ct_turn_player : Value} {od_turn_player an_turn_player : Option Addr} {sl_turn_player : Array (Option Value)}
    {f_push : Addr} {oc_push kV_push dc_push pm_push cd_push ct_push : Value} {od_push an_push : Option Addr} {sl_push : Array (Option Value)}
    {f_turn_loose : Addr} {oc_turn_loose kV_turn_loose dc_turn_loose pm_turn_loose cd_turn_loose ct_turn_loose : Value} {od_turn_loose an_turn_loose : Option Addr} {sl_turn_loose : Array (Option Value)}
    {f_hit_monster : Addr} {oc_hit_monster kV_hit_monster dc_hit_monster pm_hit_monster cd_hit_monster ct_hit_monster : Value} {od_hit_monster an_hit_monster : Option Addr} {sl_hit_monster : Array (Option Value)}
    {f_roll : Addr} {oc_roll kV_roll dc_roll pm_roll cd_roll ct_roll : Value} {od_roll an_roll : Option Addr} {sl_roll : Array (Option Value)}
    {f_turn_monster : Addr} {oc_turn_monster kV_turn_monster dc_turn_monster pm_turn_monster cd_turn_monster ct_turn_monster : Value} {od_turn_monster an_turn_monster : Option Addr} {sl_turn_monster : Array (Option Value)}
    {f_copy_game : Addr} {oc_copy_game kV_copy_game dc_copy_game pm_copy_game cd_copy_game ct_copy_game : Value} {od_copy_game an_copy_game : Option Addr} {sl_copy_game : Array (Option Value)}
    {f_count_ticks : Addr} {oc_count_ticks kV_count_ticks dc_count_ticks pm_count_ticks cd_count_ticks ct_count_ticks : Value} {od_count_ticks an_count_ticks : Option Addr} {sl_count_ticks : Array (Option Value)}
    {f_standing_behind : Addr} {oc_standing_behind kV_standing_behind dc_standing_behind pm_standing_behind cd_standing_behind ct_standing_behind : Value} {od_standing_behind an_standing_behind : Option Addr} {sl_standing_behind : Array (Option Value)}
    {f_standing_now : Addr} {oc_standing_now kV_standing_now dc_standing_now pm_standing_now cd_standing_now ct_standing_now : Value} {od_standing_now an_standing_now : Option Addr} {sl_standing_now : Array (Option Value)}
    {f_how_it_stood : Addr} {oc_how_it_stood kV_how_it_stood dc_how_it_stood pm_how_it_stood cd_how_it_stood ct_how_it_stood : Value} {od_how_it_stood an_how_it_stood : Option Addr} {sl_how_it_stood : Array (Option Value)}
    {f_how_it_stands : Addr} {oc_how_it_stands kV_how_it_stands dc_how_it_stands pm_how_it_stands cd_how_it_stands ct_how_it_stands : Value} {od_how_it_stands an_how_it_stands : Option Addr} {sl_how_it_stands : Array (Option Value)}
    {f_press : Addr} {oc_press kV_press dc_press pm_press cd_press ct_press : Value} {od_press an_press : Option Addr} {sl_press : Array (Option Value)}
    {f_go_back : Addr} {oc_go_back kV_go_back dc_go_back pm_go_back cd_go_back ct_go_back : Value} {od_go_back an_go_back : Option Addr} {sl_go_back : Array (Option Value)}
    {f_find_parting : Addr} {oc_find_parting kV_find_parting dc_find_parting pm_find_parting cd_find_parting ct_find_parting : Value} {od_find_parting an_find_parting : Option Addr} {sl_find_parting : Array (Option Value)}
    {f_cave_now : Addr} {oc_cave_now kV_cave_now dc_cave_now pm_cave_now cd_cave_now ct_cave_now : Value} {od_cave_now an_cave_now : Option Addr} {sl_cave_now : Array (Option Value)}
    {f_refuse : Addr} {oc_refuse kV_refuse dc_refuse pm_refuse cd_refuse ct_refuse : Value} {od_refuse an_refuse : Option Addr} {sl_refuse : Array (Option Value)}
    {f_answer_cave : Addr} {oc_answer_cave kV_answer_cave dc_answer_cave pm_answer_cave cd_answer_cave ct_answer_cave : Value} {od_answer_cave an_answer_cave : Option Addr} {sl_answer_cave : Array (Option Value)}
    {f_answer_hold : Addr} {oc_answer_hold kV_answer_hold dc_answer_hold pm_answer_hold cd_answer_hold ct_answer_hold : Value} {od_answer_hold an_answer_hold : Option Addr} {sl_answer_hold : Array (Option Value)}
    {f_are_too_many : Addr} {oc_are_too_many kV_are_too_many dc_are_too_many pm_are_too_many cd_are_too_many ct_are_too_many : Value} {od_are_too_many an_are_too_many : Option Addr} {sl_are_too_many : Array (Option Value)}
    {f_answer_frame : Addr} {oc_answer_frame kV_answer_frame dc_answer_frame pm_answer_frame cd_answer_frame ct_answer_frame : Value} {od_answer_frame an_answer_frame : Option Addr} {sl_answer_frame : Array (Option Value)}
    {f_answer_speed : Addr} {oc_answer_speed kV_answer_speed dc_answer_speed pm_answer_speed cd_answer_speed ct_answer_speed : Value} {od_answer_speed an_answer_speed : Option Addr} {sl_answer_speed : Array (Option Value)}
    {f_answer_save : Addr} {oc_answer_save kV_answer_save dc_answer_save pm_answer_save cd_answer_save ct_answer_save : Value} {od_answer_save an_answer_save : Option Addr} {sl_answer_save : Array (Option Value)}
    {f_answer_load : Addr} {oc_answer_load kV_answer_load dc_answer_load pm_answer_load cd_answer_load ct_answer_load : Value} {od_answer_load an_answer_load : Option Addr} {sl_answer_load : Array (Option Value)}
    {f_counted_text : Addr} {oc_counted_text kV_counted_text dc_counted_text pm_counted_text cd_counted_text ct_counted_text : Value} {od_counted_text an_counted_text : Option Addr} {sl_counted_text : Array (Option Value)}
    {f_answer_shows : Addr} {oc_answer_shows kV_answer_shows dc_answer_shows pm_answer_shows cd_answer_shows ct_answer_shows : Value} {od_answer_shows an_answer_shows : Option Addr} {sl_answer_shows : Array (Option Value)}
    {f_answer_place : Addr} {oc_answer_place kV_answer_place dc_answer_place pm_answer_place cd_answer_place ct_answer_place : Value} {od_answer_place an_answer_place : Option Addr} {sl_answer_place : Array (Option Value)}
    {f_answer_seen : Addr} {oc_answer_seen kV_answer_seen dc_answer_seen pm_answer_seen cd_answer_seen ct_answer_seen : Value} {od_answer_seen an_answer_seen : Option Addr} {sl_answer_seen : Array (Option Value)}
    {f_answer_back : Addr} {oc_answer_back kV_answer_back dc_answer_back pm_answer_back cd_answer_back ct_answer_back : Value} {od_answer_back an_answer_back : Option Addr} {sl_answer_back : Array (Option Value)}
    {f_answer_keys : Addr} {oc_answer_keys kV_answer_keys dc_answer_keys pm_answer_keys cd_answer_keys ct_answer_keys : Value} {od_answer_keys an_answer_keys : Option Addr} {sl_answer_keys : Array (Option Value)}
    {f_answer_play : Addr} {oc_answer_play kV_answer_play dc_answer_play pm_answer_play cd_answer_play ct_answer_play : Value} {od_answer_play an_answer_play : Option Addr} {sl_answer_play : Array (Option Value)}
    {f_answer_counts : Addr} {oc_answer_counts kV_answer_counts dc_answer_counts pm_answer_counts cd_answer_counts ct_answer_counts : Value} {od_answer_counts an_answer_counts : Option Addr} {sl_answer_counts : Array (Option Value)}
    {f_answer_differ : Addr} {oc_answer_differ kV_answer_differ dc_answer_differ pm_answer_differ cd_answer_differ ct_answer_differ : Value} {od_answer_differ an_answer_differ : Option Addr} {sl_answer_differ : Array (Option Value)}
    {f_answer_call : Addr} {oc_answer_call kV_answer_call dc_answer_call pm_answer_call cd_answer_call ct_answer_call : Value} {od_answer_call an_answer_call : Option Addr} {sl_answer_call : Array (Option Value)}
    {f_given_begin : Addr} {oc_given_begin kV_given_begin dc_given_begin pm_given_begin cd_given_begin ct_given_begin : Value} {od_given_begin an_given_begin : Option Addr} {sl_given_begin : Array (Option Value)}
    {f_given_end : Addr} {oc_given_end kV_given_end dc_given_end pm_given_end cd_given_end ct_given_end : Value} {od_given_end an_given_end : Option Addr} {sl_given_end : Array (Option Value)}
    {f_answers : Addr} {oc_answers kV_answers dc_answers pm_answers cd_answers ct_answers : Value} {od_answers an_answers : Option Addr} {sl_answers : Array (Option Value)}
    {t_NOTHING : Tok}
    {t_EARTH : Tok}
    {t_WALL : Tok}
    {t_LYING_STONE : Tok}
    {t_FALLING_STONE : Tok}
    {t_LYING_GEM : Tok}
    {t_FALLING_GEM : Tok}
    {t_PLAYER : Tok}
    {t_MONSTER_RIGHT : Tok}
    {t_MONSTER_UP : Tok}
    {t_WAY_OUT : Tok}
    {p_BYTES : Addr}
    {o_BYTES : Obj} {i_BYTES : Array Value} {n_BYTES : Nat}
    {t_ROW_END : Tok}
    {t_MOST_IN_A_ROW : Tok}
    {t_MOST_ROWS : Tok}
    {t_STRANGE_BYTE : Tok}
    {t_UNEVEN_ROWS : Tok}
    {t_WRONG_SIZE : Tok}
    {t_NOT_ONE_PLAYER : Tok}
    {t_GOES_ON : Tok}
    {t_WON : Tok}
    {t_LOST : Tok}
    {t_RIGHT : Tok}
    {t_DOWN : Tok}
    {t_LEFT : Tok}
    {t_POINTS_FOR_GEM : Tok}
    {t_POINTS_FOR_MONSTER : Tok}
    {t_POINTS_FOR_WAY_OUT : Tok}
    {p_FIRST_TEXT : Addr}
    {o_FIRST_TEXT : Obj} {i_FIRST_TEXT : Array Value} {n_FIRST_TEXT : Nat}
    {t_FIRST_TICK_PARTS : Tok}
    {t_MOST_BYTES : Tok}
    {t_MOST_BYTE : Tok}
    {t_MOST_KEY : Tok}
    {t_MOST_FRAME_PARTS : Tok}
    {t_MOST_TICK_PARTS : Tok}
    {t_MOST_TICKS : Tok}
    {t_MOST_PRESSED : Tok}
    {t_LAST_WHERE : Tok}
    {t_BEYOND_BOUNDS : Tok}
    {t_NOT_THERE : Tok}
    {t_TOO_MANY_TICKS : Tok}
    {t_ALIKE : Tok}
    {t_FAULT : Tok}
    {p_CALLS : Addr}
    {o_CALLS : Obj} {i_CALLS : Array Value} {n_CALLS : Nat}
    {p_ROW_CALLS : Addr}
    {o_ROW_CALLS : Obj} {i_ROW_CALLS : Array Value} {n_ROW_CALLS : Nat}
    {p_GIVEN_COUNTS : Addr}
    {es_GIVEN_COUNTS : Array DictEntry} {n_GIVEN_COUNTS : Nat}
    {C_Cave f_Cave : Addr} {oc_Cave kV_Cave dc_Cave pm_Cave cd_Cave ct_Cave : Value} {od_Cave an_Cave : Option Addr} {sl_Cave : Array (Option Value)}
    {C_Standing f_Standing : Addr} {oc_Standing kV_Standing dc_Standing pm_Standing cd_Standing ct_Standing : Value} {od_Standing an_Standing : Option Addr} {sl_Standing : Array (Option Value)}
    {C_Tick f_Tick : Addr} {oc_Tick kV_Tick dc_Tick pm_Tick cd_Tick ct_Tick : Value} {od_Tick an_Tick : Option Addr} {sl_Tick : Array (Option Value)}
    {C_Game f_Game : Addr} {oc_Game kV_Game dc_Game pm_Game cd_Game ct_Game : Value} {od_Game an_Game : Option Addr} {sl_Game : Array (Option Value)}
    {C_Session f_Session : Addr} {oc_Session kV_Session dc_Session pm_Session cd_Session ct_Session : Value} {od_Session an_Session : Option Addr} {sl_Session : Array (Option Value)}
    (a_is_known_byte : PySem.W.nsIn K mainGlobals "is_known_byte" = some (some (.ref f_is_known_byte)))
    (l_is_known_byte : K.lookup f_is_known_byte = some ⟨oc_is_known_byte, od_is_known_byte, .func (PySem.W.fnOf "is_known_byte" "is_known_byte" (C8.fnArgs s_is_known_byte) (C8.fnBody s_is_known_byte) (C8.fnScope s_is_known_byte) .none kV_is_known_byte dc_is_known_byte pm_is_known_byte an_is_known_byte cd_is_known_byte ct_is_known_byte), sl_is_known_byte⟩)
    (c_is_known_byte : PySem.W.codeIn K cd_is_known_byte "is_known_byte" = true) (k_is_known_byte : PySem.W.keepIn K (.ref f_is_known_byte) = true)
    (a_byte_of : PySem.W.nsIn K mainGlobals "byte_of" = some (some (.ref f_byte_of)))
    (l_byte_of : K.lookup f_byte_of = some ⟨oc_byte_of, od_byte_of, .func (PySem.W.fnOf "byte_of" "byte_of" (C8.fnArgs s_byte_of) (C8.fnBody s_byte_of) (C8.fnScope s_byte_of) .none kV_byte_of dc_byte_of pm_byte_of an_byte_of cd_byte_of ct_byte_of), sl_byte_of⟩)
    (c_byte_of : PySem.W.codeIn K cd_byte_of "byte_of" = true) (k_byte_of : PySem.W.keepIn K (.ref f_byte_of) = true)
    (a_thing_of : PySem.W.nsIn K mainGlobals "thing_of" = some (some (.ref f_thing_of)))
    (l_thing_of : K.lookup f_thing_of = some ⟨oc_thing_of, od_thing_of, .func (PySem.W.fnOf "thing_of" "thing_of" (C8.fnArgs s_thing_of) (C8.fnBody s_thing_of) (C8.fnScope s_thing_of) .none kV_thing_of dc_thing_of pm_thing_of an_thing_of cd_thing_of ct_thing_of), sl_thing_of⟩)
    (c_thing_of : PySem.W.codeIn K cd_thing_of "thing_of" = true) (k_thing_of : PySem.W.keepIn K (.ref f_thing_of) = true)
    (a_count_kinds : PySem.W.nsIn K mainGlobals "count_kinds" = some (some (.ref f_count_kinds)))
    (l_count_kinds : K.lookup f_count_kinds = some ⟨oc_count_kinds, od_count_kinds, .func (PySem.W.fnOf "count_kinds" "count_kinds" (C8.fnArgs s_count_kinds) (C8.fnBody s_count_kinds) (C8.fnScope s_count_kinds) .none kV_count_kinds dc_count_kinds pm_count_kinds an_count_kinds cd_count_kinds ct_count_kinds), sl_count_kinds⟩)
    (c_count_kinds : PySem.W.codeIn K cd_count_kinds "count_kinds" = true) (k_count_kinds : PySem.W.keepIn K (.ref f_count_kinds) = true)
    (a_is_lying : PySem.W.nsIn K mainGlobals "is_lying" = some (some (.ref f_is_lying)))
    (l_is_lying : K.lookup f_is_lying = some ⟨oc_is_lying, od_is_lying, .func (PySem.W.fnOf "is_lying" "is_lying" (C8.fnArgs s_is_lying) (C8.fnBody s_is_lying) (C8.fnScope s_is_lying) .none kV_is_lying dc_is_lying pm_is_lying an_is_lying cd_is_lying ct_is_lying), sl_is_lying⟩)
    (c_is_lying : PySem.W.codeIn K cd_is_lying "is_lying" = true) (k_is_lying : PySem.W.keepIn K (.ref f_is_lying) = true)
    (a_is_falling : PySem.W.nsIn K mainGlobals "is_falling" = some (some (.ref f_is_falling)))
    (l_is_falling : K.lookup f_is_falling = some ⟨oc_is_falling, od_is_falling, .func (PySem.W.fnOf "is_falling" "is_falling" (C8.fnArgs s_is_falling) (C8.fnBody s_is_falling) (C8.fnScope s_is_falling) .none kV_is_falling dc_is_falling pm_is_falling an_is_falling cd_is_falling ct_is_falling), sl_is_falling⟩)
    (c_is_falling : PySem.W.codeIn K cd_is_falling "is_falling" = true) (k_is_falling : PySem.W.keepIn K (.ref f_is_falling) = true)
    (a_is_gem : PySem.W.nsIn K mainGlobals "is_gem" = some (some (.ref f_is_gem)))
    (l_is_gem : K.lookup f_is_gem = some ⟨oc_is_gem, od_is_gem, .func (PySem.W.fnOf "is_gem" "is_gem" (C8.fnArgs s_is_gem) (C8.fnBody s_is_gem) (C8.fnScope s_is_gem) .none kV_is_gem dc_is_gem pm_is_gem an_is_gem cd_is_gem ct_is_gem), sl_is_gem⟩)
    (c_is_gem : PySem.W.codeIn K cd_is_gem "is_gem" = true) (k_is_gem : PySem.W.keepIn K (.ref f_is_gem) = true)
    (a_is_monster : PySem.W.nsIn K mainGlobals "is_monster" = some (some (.ref f_is_monster)))
    (l_is_monster : K.lookup f_is_monster = some ⟨oc_is_monster, od_is_monster, .func (PySem.W.fnOf "is_monster" "is_monster" (C8.fnArgs s_is_monster) (C8.fnBody s_is_monster) (C8.fnScope s_is_monster) .none kV_is_monster dc_is_monster pm_is_monster an_is_monster cd_is_monster ct_is_monster), sl_is_monster⟩)
    (c_is_monster : PySem.W.codeIn K cd_is_monster "is_monster" = true) (k_is_monster : PySem.W.keepIn K (.ref f_is_monster) = true)
    (a_lying : PySem.W.nsIn K mainGlobals "lying" = some (some (.ref f_lying)))
    (l_lying : K.lookup f_lying = some ⟨oc_lying, od_lying, .func (PySem.W.fnOf "lying" "lying" (C8.fnArgs s_lying) (C8.fnBody s_lying) (C8.fnScope s_lying) .none kV_lying dc_lying pm_lying an_lying cd_lying ct_lying), sl_lying⟩)
    (c_lying : PySem.W.codeIn K cd_lying "lying" = true) (k_lying : PySem.W.keepIn K (.ref f_lying) = true)
    (a_falling : PySem.W.nsIn K mainGlobals "falling" = some (some (.ref f_falling)))
    (l_falling : K.lookup f_falling = some ⟨oc_falling, od_falling, .func (PySem.W.fnOf "falling" "falling" (C8.fnArgs s_falling) (C8.fnBody s_falling) (C8.fnScope s_falling) .none kV_falling dc_falling pm_falling an_falling cd_falling ct_falling), sl_falling⟩)
    (c_falling : PySem.W.codeIn K cd_falling "falling" = true) (k_falling : PySem.W.keepIn K (.ref f_falling) = true)
    (a_stride : PySem.W.nsIn K mainGlobals "stride" = some (some (.ref f_stride)))
    (l_stride : K.lookup f_stride = some ⟨oc_stride, od_stride, .func (PySem.W.fnOf "stride" "stride" (C8.fnArgs s_stride) (C8.fnBody s_stride) (C8.fnScope s_stride) .none kV_stride dc_stride pm_stride an_stride cd_stride ct_stride), sl_stride⟩)
    (c_stride : PySem.W.codeIn K cd_stride "stride" = true) (k_stride : PySem.W.keepIn K (.ref f_stride) = true)
    (a_steps : PySem.W.nsIn K mainGlobals "steps" = some (some (.ref f_steps)))
    (l_steps : K.lookup f_steps = some ⟨oc_steps, od_steps, .func (PySem.W.fnOf "steps" "steps" (C8.fnArgs s_steps) (C8.fnBody s_steps) (C8.fnScope s_steps) .none kV_steps dc_steps pm_steps an_steps cd_steps ct_steps), sl_steps⟩)
    (c_steps : PySem.W.codeIn K cd_steps "steps" = true) (k_steps : PySem.W.keepIn K (.ref f_steps) = true)
    (a_row_begin : PySem.W.nsIn K mainGlobals "row_begin" = some (some (.ref f_row_begin)))
    (l_row_begin : K.lookup f_row_begin = some ⟨oc_row_begin, od_row_begin, .func (PySem.W.fnOf "row_begin" "row_begin" (C8.fnArgs s_row_begin) (C8.fnBody s_row_begin) (C8.fnScope s_row_begin) .none kV_row_begin dc_row_begin pm_row_begin an_row_begin cd_row_begin ct_row_begin), sl_row_begin⟩)
    (c_row_begin : PySem.W.codeIn K cd_row_begin "row_begin" = true) (k_row_begin : PySem.W.keepIn K (.ref f_row_begin) = true)
    (a_row_of : PySem.W.nsIn K mainGlobals "row_of" = some (some (.ref f_row_of)))
    (l_row_of : K.lookup f_row_of = some ⟨oc_row_of, od_row_of, .func (PySem.W.fnOf "row_of" "row_of" (C8.fnArgs s_row_of) (C8.fnBody s_row_of) (C8.fnScope s_row_of) .none kV_row_of dc_row_of pm_row_of an_row_of cd_row_of ct_row_of), sl_row_of⟩)
    (c_row_of : PySem.W.codeIn K cd_row_of "row_of" = true) (k_row_of : PySem.W.keepIn K (.ref f_row_of) = true)
    (a_is_within : PySem.W.nsIn K mainGlobals "is_within" = some (some (.ref f_is_within)))
    (l_is_within : K.lookup f_is_within = some ⟨oc_is_within, od_is_within, .func (PySem.W.fnOf "is_within" "is_within" (C8.fnArgs s_is_within) (C8.fnBody s_is_within) (C8.fnScope s_is_within) .none kV_is_within dc_is_within pm_is_within an_is_within cd_is_within ct_is_within), sl_is_within⟩)
    (c_is_within : PySem.W.codeIn K cd_is_within "is_within" = true) (k_is_within : PySem.W.keepIn K (.ref f_is_within) = true)
    (a_thing_at : PySem.W.nsIn K mainGlobals "thing_at" = some (some (.ref f_thing_at)))
    (l_thing_at : K.lookup f_thing_at = some ⟨oc_thing_at, od_thing_at, .func (PySem.W.fnOf "thing_at" "thing_at" (C8.fnArgs s_thing_at) (C8.fnBody s_thing_at) (C8.fnScope s_thing_at) .none kV_thing_at dc_thing_at pm_thing_at an_thing_at cd_thing_at ct_thing_at), sl_thing_at⟩)
    (c_thing_at : PySem.W.codeIn K cd_thing_at "thing_at" = true) (k_thing_at : PySem.W.keepIn K (.ref f_thing_at) = true)
    (a_copy_cave : PySem.W.nsIn K mainGlobals "copy_cave" = some (some (.ref f_copy_cave)))
    (l_copy_cave : K.lookup f_copy_cave = some ⟨oc_copy_cave, od_copy_cave, .func (PySem.W.fnOf "copy_cave" "copy_cave" (C8.fnArgs s_copy_cave) (C8.fnBody s_copy_cave) (C8.fnScope s_copy_cave) .none kV_copy_cave dc_copy_cave pm_copy_cave an_copy_cave cd_copy_cave ct_copy_cave), sl_copy_cave⟩)
    (c_copy_cave : PySem.W.codeIn K cd_copy_cave "copy_cave" = true) (k_copy_cave : PySem.W.keepIn K (.ref f_copy_cave) = true)
    (a_are_same_caves : PySem.W.nsIn K mainGlobals "are_same_caves" = some (some (.ref f_are_same_caves)))
    (l_are_same_caves : K.lookup f_are_same_caves = some ⟨oc_are_same_caves, od_are_same_caves, .func (PySem.W.fnOf "are_same_caves" "are_same_caves" (C8.fnArgs s_are_same_caves) (C8.fnBody s_are_same_caves) (C8.fnScope s_are_same_caves) .none kV_are_same_caves dc_are_same_caves pm_are_same_caves an_are_same_caves cd_are_same_caves ct_are_same_caves), sl_are_same_caves⟩)
    (c_are_same_caves : PySem.W.codeIn K cd_are_same_caves "are_same_caves" = true) (k_are_same_caves : PySem.W.keepIn K (.ref f_are_same_caves) = true)
    (a_count_gems : PySem.W.nsIn K mainGlobals "count_gems" = some (some (.ref f_count_gems)))
    (l_count_gems : K.lookup f_count_gems = some ⟨oc_count_gems, od_count_gems, .func (PySem.W.fnOf "count_gems" "count_gems" (C8.fnArgs s_count_gems) (C8.fnBody s_count_gems) (C8.fnScope s_count_gems) .none kV_count_gems dc_count_gems pm_count_gems an_count_gems cd_count_gems ct_count_gems), sl_count_gems⟩)
    (c_count_gems : PySem.W.codeIn K cd_count_gems "count_gems" = true) (k_count_gems : PySem.W.keepIn K (.ref f_count_gems) = true)
    (a_count_things : PySem.W.nsIn K mainGlobals "count_things" = some (some (.ref f_count_things)))
    (l_count_things : K.lookup f_count_things = some ⟨oc_count_things, od_count_things, .func (PySem.W.fnOf "count_things" "count_things" (C8.fnArgs s_count_things) (C8.fnBody s_count_things) (C8.fnScope s_count_things) .none kV_count_things dc_count_things pm_count_things an_count_things cd_count_things ct_count_things), sl_count_things⟩)
    (c_count_things : PySem.W.codeIn K cd_count_things "count_things" = true) (k_count_things : PySem.W.keepIn K (.ref f_count_things) = true)
    (a_split_rows : PySem.W.nsIn K mainGlobals "split_rows" = some (some (.ref f_split_rows)))
    (l_split_rows : K.lookup f_split_rows = some ⟨oc_split_rows, od_split_rows, .func (PySem.W.fnOf "split_rows" "split_rows" (C8.fnArgs s_split_rows) (C8.fnBody s_split_rows) (C8.fnScope s_split_rows) .none kV_split_rows dc_split_rows pm_split_rows an_split_rows cd_split_rows ct_split_rows), sl_split_rows⟩)
    (c_split_rows : PySem.W.codeIn K cd_split_rows "split_rows" = true) (k_split_rows : PySem.W.keepIn K (.ref f_split_rows) = true)
    (a_has_strange_byte : PySem.W.nsIn K mainGlobals "has_strange_byte" = some (some (.ref f_has_strange_byte)))
    (l_has_strange_byte : K.lookup f_has_strange_byte = some ⟨oc_has_strange_byte, od_has_strange_byte, .func (PySem.W.fnOf "has_strange_byte" "has_strange_byte" (C8.fnArgs s_has_strange_byte) (C8.fnBody s_has_strange_byte) (C8.fnScope s_has_strange_byte) .none kV_has_strange_byte dc_has_strange_byte pm_has_strange_byte an_has_strange_byte cd_has_strange_byte ct_has_strange_byte), sl_has_strange_byte⟩)
    (c_has_strange_byte : PySem.W.codeIn K cd_has_strange_byte "has_strange_byte" = true) (k_has_strange_byte : PySem.W.keepIn K (.ref f_has_strange_byte) = true)
    (a_has_uneven_rows : PySem.W.nsIn K mainGlobals "has_uneven_rows" = some (some (.ref f_has_uneven_rows)))
    (l_has_uneven_rows : K.lookup f_has_uneven_rows = some ⟨oc_has_uneven_rows, od_has_uneven_rows, .func (PySem.W.fnOf "has_uneven_rows" "has_uneven_rows" (C8.fnArgs s_has_uneven_rows) (C8.fnBody s_has_uneven_rows) (C8.fnScope s_has_uneven_rows) .none kV_has_uneven_rows dc_has_uneven_rows pm_has_uneven_rows an_has_uneven_rows cd_has_uneven_rows ct_has_uneven_rows), sl_has_uneven_rows⟩)
    (c_has_uneven_rows : PySem.W.codeIn K cd_has_uneven_rows "has_uneven_rows" = true) (k_has_uneven_rows : PySem.W.keepIn K (.ref f_has_uneven_rows) = true)
    (a_has_wrong_size : PySem.W.nsIn K mainGlobals "has_wrong_size" = some (some (.ref f_has_wrong_size)))
    (l_has_wrong_size : K.lookup f_has_wrong_size = some ⟨oc_has_wrong_size, od_has_wrong_size, .func (PySem.W.fnOf "has_wrong_size" "has_wrong_size" (C8.fnArgs s_has_wrong_size) (C8.fnBody s_has_wrong_size) (C8.fnScope s_has_wrong_size) .none kV_has_wrong_size dc_has_wrong_size pm_has_wrong_size an_has_wrong_size cd_has_wrong_size ct_has_wrong_size), sl_has_wrong_size⟩)
    (c_has_wrong_size : PySem.W.codeIn K cd_has_wrong_size "has_wrong_size" = true) (k_has_wrong_size : PySem.W.keepIn K (.ref f_has_wrong_size) = true)
    (a_find_fault : PySem.W.nsIn K mainGlobals "find_fault" = some (some (.ref f_find_fault)))
    (l_find_fault : K.lookup f_find_fault = some ⟨oc_find_fault, od_find_fault, .func (PySem.W.fnOf "find_fault" "find_fault" (C8.fnArgs s_find_fault) (C8.fnBody s_find_fault) (C8.fnScope s_find_fault) .none kV_find_fault dc_find_fault pm_find_fault an_find_fault cd_find_fault ct_find_fault), sl_find_fault⟩)
    (c_find_fault : PySem.W.codeIn K cd_find_fault "find_fault" = true) (k_find_fault : PySem.W.keepIn K (.ref f_find_fault) = true)
    (a_read_cave : PySem.W.nsIn K mainGlobals "read_cave" = some (some (.ref f_read_cave)))
    (l_read_cave : K.lookup f_read_cave = some ⟨oc_read_cave, od_read_cave, .func (PySem.W.fnOf "read_cave" "read_cave" (C8.fnArgs s_read_cave) (C8.fnBody s_read_cave) (C8.fnScope s_read_cave) .none kV_read_cave dc_read_cave pm_read_cave an_read_cave cd_read_cave ct_read_cave), sl_read_cave⟩)
    (c_read_cave : PySem.W.codeIn K cd_read_cave "read_cave" = true) (k_read_cave : PySem.W.keepIn K (.ref f_read_cave) = true)
    (a_write_cave : PySem.W.nsIn K mainGlobals "write_cave" = some (some (.ref f_write_cave)))
    (l_write_cave : K.lookup f_write_cave = some ⟨oc_write_cave, od_write_cave, .func (PySem.W.fnOf "write_cave" "write_cave" (C8.fnArgs s_write_cave) (C8.fnBody s_write_cave) (C8.fnScope s_write_cave) .none kV_write_cave dc_write_cave pm_write_cave an_write_cave cd_write_cave ct_write_cave), sl_write_cave⟩)
    (c_write_cave : PySem.W.codeIn K cd_write_cave "write_cave" = true) (k_write_cave : PySem.W.keepIn K (.ref f_write_cave) = true)
    (a_copy_standing : PySem.W.nsIn K mainGlobals "copy_standing" = some (some (.ref f_copy_standing)))
    (l_copy_standing : K.lookup f_copy_standing = some ⟨oc_copy_standing, od_copy_standing, .func (PySem.W.fnOf "copy_standing" "copy_standing" (C8.fnArgs s_copy_standing) (C8.fnBody s_copy_standing) (C8.fnScope s_copy_standing) .none kV_copy_standing dc_copy_standing pm_copy_standing an_copy_standing cd_copy_standing ct_copy_standing), sl_copy_standing⟩)
    (c_copy_standing : PySem.W.codeIn K cd_copy_standing "copy_standing" = true) (k_copy_standing : PySem.W.keepIn K (.ref f_copy_standing) = true)
    (a_stand_alike : PySem.W.nsIn K mainGlobals "stand_alike" = some (some (.ref f_stand_alike)))
    (l_stand_alike : K.lookup f_stand_alike = some ⟨oc_stand_alike, od_stand_alike, .func (PySem.W.fnOf "stand_alike" "stand_alike" (C8.fnArgs s_stand_alike) (C8.fnBody s_stand_alike) (C8.fnScope s_stand_alike) .none kV_stand_alike dc_stand_alike pm_stand_alike an_stand_alike cd_stand_alike ct_stand_alike), sl_stand_alike⟩)
    (c_stand_alike : PySem.W.codeIn K cd_stand_alike "stand_alike" = true) (k_stand_alike : PySem.W.keepIn K (.ref f_stand_alike) = true)
    (a_is_over : PySem.W.nsIn K mainGlobals "is_over" = some (some (.ref f_is_over)))
    (l_is_over : K.lookup f_is_over = some ⟨oc_is_over, od_is_over, .func (PySem.W.fnOf "is_over" "is_over" (C8.fnArgs s_is_over) (C8.fnBody s_is_over) (C8.fnScope s_is_over) .none kV_is_over dc_is_over pm_is_over an_is_over cd_is_over ct_is_over), sl_is_over⟩)
    (c_is_over : PySem.W.codeIn K cd_is_over "is_over" = true) (k_is_over : PySem.W.keepIn K (.ref f_is_over) = true)
    (a_run_tick : PySem.W.nsIn K mainGlobals "run_tick" = some (some (.ref f_run_tick)))
    (l_run_tick : K.lookup f_run_tick = some ⟨oc_run_tick, od_run_tick, .func (PySem.W.fnOf "run_tick" "run_tick" (C8.fnArgs s_run_tick) (C8.fnBody s_run_tick) (C8.fnScope s_run_tick) .none kV_run_tick dc_run_tick pm_run_tick an_run_tick cd_run_tick ct_run_tick), sl_run_tick⟩)
    (c_run_tick : PySem.W.codeIn K cd_run_tick "run_tick" = true) (k_run_tick : PySem.W.keepIn K (.ref f_run_tick) = true)
    (a_take_turn : PySem.W.nsIn K mainGlobals "take_turn" = some (some (.ref f_take_turn)))
    (l_take_turn : K.lookup f_take_turn = some ⟨oc_take_turn, od_take_turn, .func (PySem.W.fnOf "take_turn" "take_turn" (C8.fnArgs s_take_turn) (C8.fnBody s_take_turn) (C8.fnScope s_take_turn) .none kV_take_turn dc_take_turn pm_take_turn an_take_turn cd_take_turn ct_take_turn), sl_take_turn⟩)
    (c_take_turn : PySem.W.codeIn K cd_take_turn "take_turn" = true) (k_take_turn : PySem.W.keepIn K (.ref f_take_turn) = true)
    (a_go : PySem.W.nsIn K mainGlobals "go" = some (some (.ref f_go)))
    (l_go : K.lookup f_go = some ⟨oc_go, od_go, .func (PySem.W.fnOf "go" "go" (C8.fnArgs s_go) (C8.fnBody s_go) (C8.fnScope s_go) .none kV_go dc_go pm_go an_go cd_go ct_go), sl_go⟩)
    (c_go : PySem.W.codeIn K cd_go "go" = true) (k_go : PySem.W.keepIn K (.ref f_go) = true)
    (a_end : PySem.W.nsIn K mainGlobals "end" = some (some (.ref f_end)))
    (l_end : K.lookup f_end = some ⟨oc_end, od_end, .func (PySem.W.fnOf "end" "end" (C8.fnArgs s_end) (C8.fnBody s_end) (C8.fnScope s_end) .none kV_end dc_end pm_end an_end cd_end ct_end), sl_end⟩)
    (c_end : PySem.W.codeIn K cd_end "end" = true) (k_end : PySem.W.keepIn K (.ref f_end) = true)
    (a_score : PySem.W.nsIn K mainGlobals "score" = some (some (.ref f_score)))
    (l_score : K.lookup f_score = some ⟨oc_score, od_score, .func (PySem.W.fnOf "score" "score" (C8.fnArgs s_score) (C8.fnBody s_score) (C8.fnScope s_score) .none kV_score dc_score pm_score an_score cd_score ct_score), sl_score⟩)
    (c_score : PySem.W.codeIn K cd_score "score" = true) (k_score : PySem.W.keepIn K (.ref f_score) = true)
    (a_turn_player : PySem.W.nsIn K mainGlobals "turn_player" = some (some (.ref f_turn_player)))
    (l_turn_player : K.lookup f_turn_player = some ⟨oc_turn_player, od_turn_player, .func (PySem.W.fnOf "turn_player" "turn_player" (C8.fnArgs s_turn_player) (C8.fnBody s_turn_player) (C8.fnScope s_turn_player) .none kV_turn_player dc_turn_player pm_turn_player an_turn_player cd_turn_player ct_turn_player), sl_turn_player⟩)
    (c_turn_player : PySem.W.codeIn K cd_turn_player "turn_player" = true) (k_turn_player : PySem.W.keepIn K (.ref f_turn_player) = true)
    (a_push : PySem.W.nsIn K mainGlobals "push" = some (some (.ref f_push)))
    (l_push : K.lookup f_push = some ⟨oc_push, od_push, .func (PySem.W.fnOf "push" "push" (C8.fnArgs s_push) (C8.fnBody s_push) (C8.fnScope s_push) .none kV_push dc_push pm_push an_push cd_push ct_push), sl_push⟩)
    (c_push : PySem.W.codeIn K cd_push "push" = true) (k_push : PySem.W.keepIn K (.ref f_push) = true)
    (a_turn_loose : PySem.W.nsIn K mainGlobals "turn_loose" = some (some (.ref f_turn_loose)))
    (l_turn_loose : K.lookup f_turn_loose = some ⟨oc_turn_loose, od_turn_loose, .func (PySem.W.fnOf "turn_loose" "turn_loose" (C8.fnArgs s_turn_loose) (C8.fnBody s_turn_loose) (C8.fnScope s_turn_loose) .none kV_turn_loose dc_turn_loose pm_turn_loose an_turn_loose cd_turn_loose ct_turn_loose), sl_turn_loose⟩)
    (c_turn_loose : PySem.W.codeIn K cd_turn_loose "turn_loose" = true) (k_turn_loose : PySem.W.keepIn K (.ref f_turn_loose) = true)
    (a_hit_monster : PySem.W.nsIn K mainGlobals "hit_monster" = some (some (.ref f_hit_monster)))
    (l_hit_monster : K.lookup f_hit_monster = some ⟨oc_hit_monster, od_hit_monster, .func (PySem.W.fnOf "hit_monster" "hit_monster" (C8.fnArgs s_hit_monster) (C8.fnBody s_hit_monster) (C8.fnScope s_hit_monster) .none kV_hit_monster dc_hit_monster pm_hit_monster an_hit_monster cd_hit_monster ct_hit_monster), sl_hit_monster⟩)
    (c_hit_monster : PySem.W.codeIn K cd_hit_monster "hit_monster" = true) (k_hit_monster : PySem.W.keepIn K (.ref f_hit_monster) = true)
    (a_roll : PySem.W.nsIn K mainGlobals "roll" = some (some (.ref f_roll)))
    (l_roll : K.lookup f_roll = some ⟨oc_roll, od_roll, .func (PySem.W.fnOf "roll" "roll" (C8.fnArgs s_roll) (C8.fnBody s_roll) (C8.fnScope s_roll) .none kV_roll dc_roll pm_roll an_roll cd_roll ct_roll), sl_roll⟩)
    (c_roll : PySem.W.codeIn K cd_roll "roll" = true) (k_roll : PySem.W.keepIn K (.ref f_roll) = true)
    (a_turn_monster : PySem.W.nsIn K mainGlobals "turn_monster" = some (some (.ref f_turn_monster)))
    (l_turn_monster : K.lookup f_turn_monster = some ⟨oc_turn_monster, od_turn_monster, .func (PySem.W.fnOf "turn_monster" "turn_monster" (C8.fnArgs s_turn_monster) (C8.fnBody s_turn_monster) (C8.fnScope s_turn_monster) .none kV_turn_monster dc_turn_monster pm_turn_monster an_turn_monster cd_turn_monster ct_turn_monster), sl_turn_monster⟩)
    (c_turn_monster : PySem.W.codeIn K cd_turn_monster "turn_monster" = true) (k_turn_monster : PySem.W.keepIn K (.ref f_turn_monster) = true)
    (a_copy_game : PySem.W.nsIn K mainGlobals "copy_game" = some (some (.ref f_copy_game)))
    (l_copy_game : K.lookup f_copy_game = some ⟨oc_copy_game, od_copy_game, .func (PySem.W.fnOf "copy_game" "copy_game" (C8.fnArgs s_copy_game) (C8.fnBody s_copy_game) (C8.fnScope s_copy_game) .none kV_copy_game dc_copy_game pm_copy_game an_copy_game cd_copy_game ct_copy_game), sl_copy_game⟩)
    (c_copy_game : PySem.W.codeIn K cd_copy_game "copy_game" = true) (k_copy_game : PySem.W.keepIn K (.ref f_copy_game) = true)
    (a_count_ticks : PySem.W.nsIn K mainGlobals "count_ticks" = some (some (.ref f_count_ticks)))
    (l_count_ticks : K.lookup f_count_ticks = some ⟨oc_count_ticks, od_count_ticks, .func (PySem.W.fnOf "count_ticks" "count_ticks" (C8.fnArgs s_count_ticks) (C8.fnBody s_count_ticks) (C8.fnScope s_count_ticks) .none kV_count_ticks dc_count_ticks pm_count_ticks an_count_ticks cd_count_ticks ct_count_ticks), sl_count_ticks⟩)
    (c_count_ticks : PySem.W.codeIn K cd_count_ticks "count_ticks" = true) (k_count_ticks : PySem.W.keepIn K (.ref f_count_ticks) = true)
    (a_standing_behind : PySem.W.nsIn K mainGlobals "standing_behind" = some (some (.ref f_standing_behind)))
    (l_standing_behind : K.lookup f_standing_behind = some ⟨oc_standing_behind, od_standing_behind, .func (PySem.W.fnOf "standing_behind" "standing_behind" (C8.fnArgs s_standing_behind) (C8.fnBody s_standing_behind) (C8.fnScope s_standing_behind) .none kV_standing_behind dc_standing_behind pm_standing_behind an_standing_behind cd_standing_behind ct_standing_behind), sl_standing_behind⟩)
    (c_standing_behind : PySem.W.codeIn K cd_standing_behind "standing_behind" = true) (k_standing_behind : PySem.W.keepIn K (.ref f_standing_behind) = true)
    (a_standing_now : PySem.W.nsIn K mainGlobals "standing_now" = some (some (.ref f_standing_now)))
    (l_standing_now : K.lookup f_standing_now = some ⟨oc_standing_now, od_standing_now, .func (PySem.W.fnOf "standing_now" "standing_now" (C8.fnArgs s_standing_now) (C8.fnBody s_standing_now) (C8.fnScope s_standing_now) .none kV_standing_now dc_standing_now pm_standing_now an_standing_now cd_standing_now ct_standing_now), sl_standing_now⟩)
    (c_standing_now : PySem.W.codeIn K cd_standing_now "standing_now" = true) (k_standing_now : PySem.W.keepIn K (.ref f_standing_now) = true)
    (a_how_it_stood : PySem.W.nsIn K mainGlobals "how_it_stood" = some (some (.ref f_how_it_stood)))
    (l_how_it_stood : K.lookup f_how_it_stood = some ⟨oc_how_it_stood, od_how_it_stood, .func (PySem.W.fnOf "how_it_stood" "how_it_stood" (C8.fnArgs s_how_it_stood) (C8.fnBody s_how_it_stood) (C8.fnScope s_how_it_stood) .none kV_how_it_stood dc_how_it_stood pm_how_it_stood an_how_it_stood cd_how_it_stood ct_how_it_stood), sl_how_it_stood⟩)
    (c_how_it_stood : PySem.W.codeIn K cd_how_it_stood "how_it_stood" = true) (k_how_it_stood : PySem.W.keepIn K (.ref f_how_it_stood) = true)
    (a_how_it_stands : PySem.W.nsIn K mainGlobals "how_it_stands" = some (some (.ref f_how_it_stands)))
    (l_how_it_stands : K.lookup f_how_it_stands = some ⟨oc_how_it_stands, od_how_it_stands, .func (PySem.W.fnOf "how_it_stands" "how_it_stands" (C8.fnArgs s_how_it_stands) (C8.fnBody s_how_it_stands) (C8.fnScope s_how_it_stands) .none kV_how_it_stands dc_how_it_stands pm_how_it_stands an_how_it_stands cd_how_it_stands ct_how_it_stands), sl_how_it_stands⟩)
    (c_how_it_stands : PySem.W.codeIn K cd_how_it_stands "how_it_stands" = true) (k_how_it_stands : PySem.W.keepIn K (.ref f_how_it_stands) = true)
    (a_press : PySem.W.nsIn K mainGlobals "press" = some (some (.ref f_press)))
    (l_press : K.lookup f_press = some ⟨oc_press, od_press, .func (PySem.W.fnOf "press" "press" (C8.fnArgs s_press) (C8.fnBody s_press) (C8.fnScope s_press) .none kV_press dc_press pm_press an_press cd_press ct_press), sl_press⟩)
    (c_press : PySem.W.codeIn K cd_press "press" = true) (k_press : PySem.W.keepIn K (.ref f_press) = true)
    (a_go_back : PySem.W.nsIn K mainGlobals "go_back" = some (some (.ref f_go_back)))
    (l_go_back : K.lookup f_go_back = some ⟨oc_go_back, od_go_back, .func (PySem.W.fnOf "go_back" "go_back" (C8.fnArgs s_go_back) (C8.fnBody s_go_back) (C8.fnScope s_go_back) .none kV_go_back dc_go_back pm_go_back an_go_back cd_go_back ct_go_back), sl_go_back⟩)
    (c_go_back : PySem.W.codeIn K cd_go_back "go_back" = true) (k_go_back : PySem.W.keepIn K (.ref f_go_back) = true)
    (a_find_parting : PySem.W.nsIn K mainGlobals "find_parting" = some (some (.ref f_find_parting)))
    (l_find_parting : K.lookup f_find_parting = some ⟨oc_find_parting, od_find_parting, .func (PySem.W.fnOf "find_parting" "find_parting" (C8.fnArgs s_find_parting) (C8.fnBody s_find_parting) (C8.fnScope s_find_parting) .none kV_find_parting dc_find_parting pm_find_parting an_find_parting cd_find_parting ct_find_parting), sl_find_parting⟩)
    (c_find_parting : PySem.W.codeIn K cd_find_parting "find_parting" = true) (k_find_parting : PySem.W.keepIn K (.ref f_find_parting) = true)
    (a_cave_now : PySem.W.nsIn K mainGlobals "cave_now" = some (some (.ref f_cave_now)))
    (l_cave_now : K.lookup f_cave_now = some ⟨oc_cave_now, od_cave_now, .func (PySem.W.fnOf "cave_now" "cave_now" (C8.fnArgs s_cave_now) (C8.fnBody s_cave_now) (C8.fnScope s_cave_now) .none kV_cave_now dc_cave_now pm_cave_now an_cave_now cd_cave_now ct_cave_now), sl_cave_now⟩)
    (c_cave_now : PySem.W.codeIn K cd_cave_now "cave_now" = true) (k_cave_now : PySem.W.keepIn K (.ref f_cave_now) = true)
    (a_refuse : PySem.W.nsIn K mainGlobals "refuse" = some (some (.ref f_refuse)))
    (l_refuse : K.lookup f_refuse = some ⟨oc_refuse, od_refuse, .func (PySem.W.fnOf "refuse" "refuse" (C8.fnArgs s_refuse) (C8.fnBody s_refuse) (C8.fnScope s_refuse) .none kV_refuse dc_refuse pm_refuse an_refuse cd_refuse ct_refuse), sl_refuse⟩)
    (c_refuse : PySem.W.codeIn K cd_refuse "refuse" = true) (k_refuse : PySem.W.keepIn K (.ref f_refuse) = true)
    (a_answer_cave : PySem.W.nsIn K mainGlobals "answer_cave" = some (some (.ref f_answer_cave)))
    (l_answer_cave : K.lookup f_answer_cave = some ⟨oc_answer_cave, od_answer_cave, .func (PySem.W.fnOf "answer_cave" "answer_cave" (C8.fnArgs s_answer_cave) (C8.fnBody s_answer_cave) (C8.fnScope s_answer_cave) .none kV_answer_cave dc_answer_cave pm_answer_cave an_answer_cave cd_answer_cave ct_answer_cave), sl_answer_cave⟩)
    (c_answer_cave : PySem.W.codeIn K cd_answer_cave "answer_cave" = true) (k_answer_cave : PySem.W.keepIn K (.ref f_answer_cave) = true)
    (a_answer_hold : PySem.W.nsIn K mainGlobals "answer_hold" = some (some (.ref f_answer_hold)))
    (l_answer_hold : K.lookup f_answer_hold = some ⟨oc_answer_hold, od_answer_hold, .func (PySem.W.fnOf "answer_hold" "answer_hold" (C8.fnArgs s_answer_hold) (C8.fnBody s_answer_hold) (C8.fnScope s_answer_hold) .none kV_answer_hold dc_answer_hold pm_answer_hold an_answer_hold cd_answer_hold ct_answer_hold), sl_answer_hold⟩)
    (c_answer_hold : PySem.W.codeIn K cd_answer_hold "answer_hold" = true) (k_answer_hold : PySem.W.keepIn K (.ref f_answer_hold) = true)
    (a_are_too_many : PySem.W.nsIn K mainGlobals "are_too_many" = some (some (.ref f_are_too_many)))
    (l_are_too_many : K.lookup f_are_too_many = some ⟨oc_are_too_many, od_are_too_many, .func (PySem.W.fnOf "are_too_many" "are_too_many" (C8.fnArgs s_are_too_many) (C8.fnBody s_are_too_many) (C8.fnScope s_are_too_many) .none kV_are_too_many dc_are_too_many pm_are_too_many an_are_too_many cd_are_too_many ct_are_too_many), sl_are_too_many⟩)
    (c_are_too_many : PySem.W.codeIn K cd_are_too_many "are_too_many" = true) (k_are_too_many : PySem.W.keepIn K (.ref f_are_too_many) = true)
    (a_answer_frame : PySem.W.nsIn K mainGlobals "answer_frame" = some (some (.ref f_answer_frame)))
    (l_answer_frame : K.lookup f_answer_frame = some ⟨oc_answer_frame, od_answer_frame, .func (PySem.W.fnOf "answer_frame" "answer_frame" (C8.fnArgs s_answer_frame) (C8.fnBody s_answer_frame) (C8.fnScope s_answer_frame) .none kV_answer_frame dc_answer_frame pm_answer_frame an_answer_frame cd_answer_frame ct_answer_frame), sl_answer_frame⟩)
    (c_answer_frame : PySem.W.codeIn K cd_answer_frame "answer_frame" = true) (k_answer_frame : PySem.W.keepIn K (.ref f_answer_frame) = true)
    (a_answer_speed : PySem.W.nsIn K mainGlobals "answer_speed" = some (some (.ref f_answer_speed)))
    (l_answer_speed : K.lookup f_answer_speed = some ⟨oc_answer_speed, od_answer_speed, .func (PySem.W.fnOf "answer_speed" "answer_speed" (C8.fnArgs s_answer_speed) (C8.fnBody s_answer_speed) (C8.fnScope s_answer_speed) .none kV_answer_speed dc_answer_speed pm_answer_speed an_answer_speed cd_answer_speed ct_answer_speed), sl_answer_speed⟩)
    (c_answer_speed : PySem.W.codeIn K cd_answer_speed "answer_speed" = true) (k_answer_speed : PySem.W.keepIn K (.ref f_answer_speed) = true)
    (a_answer_save : PySem.W.nsIn K mainGlobals "answer_save" = some (some (.ref f_answer_save)))
    (l_answer_save : K.lookup f_answer_save = some ⟨oc_answer_save, od_answer_save, .func (PySem.W.fnOf "answer_save" "answer_save" (C8.fnArgs s_answer_save) (C8.fnBody s_answer_save) (C8.fnScope s_answer_save) .none kV_answer_save dc_answer_save pm_answer_save an_answer_save cd_answer_save ct_answer_save), sl_answer_save⟩)
    (c_answer_save : PySem.W.codeIn K cd_answer_save "answer_save" = true) (k_answer_save : PySem.W.keepIn K (.ref f_answer_save) = true)
    (a_answer_load : PySem.W.nsIn K mainGlobals "answer_load" = some (some (.ref f_answer_load)))
    (l_answer_load : K.lookup f_answer_load = some ⟨oc_answer_load, od_answer_load, .func (PySem.W.fnOf "answer_load" "answer_load" (C8.fnArgs s_answer_load) (C8.fnBody s_answer_load) (C8.fnScope s_answer_load) .none kV_answer_load dc_answer_load pm_answer_load an_answer_load cd_answer_load ct_answer_load), sl_answer_load⟩)
    (c_answer_load : PySem.W.codeIn K cd_answer_load "answer_load" = true) (k_answer_load : PySem.W.keepIn K (.ref f_answer_load) = true)
    (a_counted_text : PySem.W.nsIn K mainGlobals "counted_text" = some (some (.ref f_counted_text)))
    (l_counted_text : K.lookup f_counted_text = some ⟨oc_counted_text, od_counted_text, .func (PySem.W.fnOf "counted_text" "counted_text" (C8.fnArgs s_counted_text) (C8.fnBody s_counted_text) (C8.fnScope s_counted_text) .none kV_counted_text dc_counted_text pm_counted_text an_counted_text cd_counted_text ct_counted_text), sl_counted_text⟩)
    (c_counted_text : PySem.W.codeIn K cd_counted_text "counted_text" = true) (k_counted_text : PySem.W.keepIn K (.ref f_counted_text) = true)
    (a_answer_shows : PySem.W.nsIn K mainGlobals "answer_shows" = some (some (.ref f_answer_shows)))
    (l_answer_shows : K.lookup f_answer_shows = some ⟨oc_answer_shows, od_answer_shows, .func (PySem.W.fnOf "answer_shows" "answer_shows" (C8.fnArgs s_answer_shows) (C8.fnBody s_answer_shows) (C8.fnScope s_answer_shows) .none kV_answer_shows dc_answer_shows pm_answer_shows an_answer_shows cd_answer_shows ct_answer_shows), sl_answer_shows⟩)
    (c_answer_shows : PySem.W.codeIn K cd_answer_shows "answer_shows" = true) (k_answer_shows : PySem.W.keepIn K (.ref f_answer_shows) = true)
    (a_answer_place : PySem.W.nsIn K mainGlobals "answer_place" = some (some (.ref f_answer_place)))
    (l_answer_place : K.lookup f_answer_place = some ⟨oc_answer_place, od_answer_place, .func (PySem.W.fnOf "answer_place" "answer_place" (C8.fnArgs s_answer_place) (C8.fnBody s_answer_place) (C8.fnScope s_answer_place) .none kV_answer_place dc_answer_place pm_answer_place an_answer_place cd_answer_place ct_answer_place), sl_answer_place⟩)
    (c_answer_place : PySem.W.codeIn K cd_answer_place "answer_place" = true) (k_answer_place : PySem.W.keepIn K (.ref f_answer_place) = true)
    (a_answer_seen : PySem.W.nsIn K mainGlobals "answer_seen" = some (some (.ref f_answer_seen)))
    (l_answer_seen : K.lookup f_answer_seen = some ⟨oc_answer_seen, od_answer_seen, .func (PySem.W.fnOf "answer_seen" "answer_seen" (C8.fnArgs s_answer_seen) (C8.fnBody s_answer_seen) (C8.fnScope s_answer_seen) .none kV_answer_seen dc_answer_seen pm_answer_seen an_answer_seen cd_answer_seen ct_answer_seen), sl_answer_seen⟩)
    (c_answer_seen : PySem.W.codeIn K cd_answer_seen "answer_seen" = true) (k_answer_seen : PySem.W.keepIn K (.ref f_answer_seen) = true)
    (a_answer_back : PySem.W.nsIn K mainGlobals "answer_back" = some (some (.ref f_answer_back)))
    (l_answer_back : K.lookup f_answer_back = some ⟨oc_answer_back, od_answer_back, .func (PySem.W.fnOf "answer_back" "answer_back" (C8.fnArgs s_answer_back) (C8.fnBody s_answer_back) (C8.fnScope s_answer_back) .none kV_answer_back dc_answer_back pm_answer_back an_answer_back cd_answer_back ct_answer_back), sl_answer_back⟩)
    (c_answer_back : PySem.W.codeIn K cd_answer_back "answer_back" = true) (k_answer_back : PySem.W.keepIn K (.ref f_answer_back) = true)
    (a_answer_keys : PySem.W.nsIn K mainGlobals "answer_keys" = some (some (.ref f_answer_keys)))
    (l_answer_keys : K.lookup f_answer_keys = some ⟨oc_answer_keys, od_answer_keys, .func (PySem.W.fnOf "answer_keys" "answer_keys" (C8.fnArgs s_answer_keys) (C8.fnBody s_answer_keys) (C8.fnScope s_answer_keys) .none kV_answer_keys dc_answer_keys pm_answer_keys an_answer_keys cd_answer_keys ct_answer_keys), sl_answer_keys⟩)
    (c_answer_keys : PySem.W.codeIn K cd_answer_keys "answer_keys" = true) (k_answer_keys : PySem.W.keepIn K (.ref f_answer_keys) = true)
    (a_answer_play : PySem.W.nsIn K mainGlobals "answer_play" = some (some (.ref f_answer_play)))
    (l_answer_play : K.lookup f_answer_play = some ⟨oc_answer_play, od_answer_play, .func (PySem.W.fnOf "answer_play" "answer_play" (C8.fnArgs s_answer_play) (C8.fnBody s_answer_play) (C8.fnScope s_answer_play) .none kV_answer_play dc_answer_play pm_answer_play an_answer_play cd_answer_play ct_answer_play), sl_answer_play⟩)
    (c_answer_play : PySem.W.codeIn K cd_answer_play "answer_play" = true) (k_answer_play : PySem.W.keepIn K (.ref f_answer_play) = true)
    (a_answer_counts : PySem.W.nsIn K mainGlobals "answer_counts" = some (some (.ref f_answer_counts)))
    (l_answer_counts : K.lookup f_answer_counts = some ⟨oc_answer_counts, od_answer_counts, .func (PySem.W.fnOf "answer_counts" "answer_counts" (C8.fnArgs s_answer_counts) (C8.fnBody s_answer_counts) (C8.fnScope s_answer_counts) .none kV_answer_counts dc_answer_counts pm_answer_counts an_answer_counts cd_answer_counts ct_answer_counts), sl_answer_counts⟩)
    (c_answer_counts : PySem.W.codeIn K cd_answer_counts "answer_counts" = true) (k_answer_counts : PySem.W.keepIn K (.ref f_answer_counts) = true)
    (a_answer_differ : PySem.W.nsIn K mainGlobals "answer_differ" = some (some (.ref f_answer_differ)))
    (l_answer_differ : K.lookup f_answer_differ = some ⟨oc_answer_differ, od_answer_differ, .func (PySem.W.fnOf "answer_differ" "answer_differ" (C8.fnArgs s_answer_differ) (C8.fnBody s_answer_differ) (C8.fnScope s_answer_differ) .none kV_answer_differ dc_answer_differ pm_answer_differ an_answer_differ cd_answer_differ ct_answer_differ), sl_answer_differ⟩)
    (c_answer_differ : PySem.W.codeIn K cd_answer_differ "answer_differ" = true) (k_answer_differ : PySem.W.keepIn K (.ref f_answer_differ) = true)
    (a_answer_call : PySem.W.nsIn K mainGlobals "answer_call" = some (some (.ref f_answer_call)))
    (l_answer_call : K.lookup f_answer_call = some ⟨oc_answer_call, od_answer_call, .func (PySem.W.fnOf "answer_call" "answer_call" (C8.fnArgs s_answer_call) (C8.fnBody s_answer_call) (C8.fnScope s_answer_call) .none kV_answer_call dc_answer_call pm_answer_call an_answer_call cd_answer_call ct_answer_call), sl_answer_call⟩)
    (c_answer_call : PySem.W.codeIn K cd_answer_call "answer_call" = true) (k_answer_call : PySem.W.keepIn K (.ref f_answer_call) = true)
    (a_given_begin : PySem.W.nsIn K mainGlobals "given_begin" = some (some (.ref f_given_begin)))
    (l_given_begin : K.lookup f_given_begin = some ⟨oc_given_begin, od_given_begin, .func (PySem.W.fnOf "given_begin" "given_begin" (C8.fnArgs s_given_begin) (C8.fnBody s_given_begin) (C8.fnScope s_given_begin) .none kV_given_begin dc_given_begin pm_given_begin an_given_begin cd_given_begin ct_given_begin), sl_given_begin⟩)
    (c_given_begin : PySem.W.codeIn K cd_given_begin "given_begin" = true) (k_given_begin : PySem.W.keepIn K (.ref f_given_begin) = true)
    (a_given_end : PySem.W.nsIn K mainGlobals "given_end" = some (some (.ref f_given_end)))
    (l_given_end : K.lookup f_given_end = some ⟨oc_given_end, od_given_end, .func (PySem.W.fnOf "given_end" "given_end" (C8.fnArgs s_given_end) (C8.fnBody s_given_end) (C8.fnScope s_given_end) .none kV_given_end dc_given_end pm_given_end an_given_end cd_given_end ct_given_end), sl_given_end⟩)
    (c_given_end : PySem.W.codeIn K cd_given_end "given_end" = true) (k_given_end : PySem.W.keepIn K (.ref f_given_end) = true)
    (a_answers : PySem.W.nsIn K mainGlobals "answers" = some (some (.ref f_answers)))
    (l_answers : K.lookup f_answers = some ⟨oc_answers, od_answers, .func (PySem.W.fnOf "answers" "answers" (C8.fnArgs s_answers) (C8.fnBody s_answers) (C8.fnScope s_answers) .none kV_answers dc_answers pm_answers an_answers cd_answers ct_answers), sl_answers⟩)
    (c_answers : PySem.W.codeIn K cd_answers "answers" = true) (k_answers : PySem.W.keepIn K (.ref f_answers) = true)
    (e_NOTHING : PySem.W.nsIn K mainGlobals "NOTHING" = some (some (.int 0 t_NOTHING)))
    (e_EARTH : PySem.W.nsIn K mainGlobals "EARTH" = some (some (.int 1 t_EARTH)))
    (e_WALL : PySem.W.nsIn K mainGlobals "WALL" = some (some (.int 2 t_WALL)))
    (e_LYING_STONE : PySem.W.nsIn K mainGlobals "LYING_STONE" = some (some (.int 3 t_LYING_STONE)))
    (e_FALLING_STONE : PySem.W.nsIn K mainGlobals "FALLING_STONE" = some (some (.int 4 t_FALLING_STONE)))
    (e_LYING_GEM : PySem.W.nsIn K mainGlobals "LYING_GEM" = some (some (.int 5 t_LYING_GEM)))
    (e_FALLING_GEM : PySem.W.nsIn K mainGlobals "FALLING_GEM" = some (some (.int 6 t_FALLING_GEM)))
    (e_PLAYER : PySem.W.nsIn K mainGlobals "PLAYER" = some (some (.int 7 t_PLAYER)))
    (e_MONSTER_RIGHT : PySem.W.nsIn K mainGlobals "MONSTER_RIGHT" = some (some (.int 8 t_MONSTER_RIGHT)))
    (e_MONSTER_UP : PySem.W.nsIn K mainGlobals "MONSTER_UP" = some (some (.int 11 t_MONSTER_UP)))
    (e_WAY_OUT : PySem.W.nsIn K mainGlobals "WAY_OUT" = some (some (.int 12 t_WAY_OUT)))
    (e_BYTES : PySem.W.nsIn K mainGlobals "BYTES" = some (some (.ref p_BYTES)))
    (lo_BYTES : K.lookup p_BYTES = some o_BYTES) (oc_BYTES : o_BYTES.cls = .type "tuple") (od_BYTES : o_BYTES.data = .seq i_BYTES n_BYTES) (oz_BYTES : i_BYTES.size ≤ sizeLine) (ov_BYTES : Vals (([32, 58, 35, 111, 79, 42, 43, 64, 62, 118, 60, 94, 69] : List Nat).map U.iv) i_BYTES.toList)
    (e_ROW_END : PySem.W.nsIn K mainGlobals "ROW_END" = some (some (.int 10 t_ROW_END)))
    (e_MOST_IN_A_ROW : PySem.W.nsIn K mainGlobals "MOST_IN_A_ROW" = some (some (.int 20 t_MOST_IN_A_ROW)))
    (e_MOST_ROWS : PySem.W.nsIn K mainGlobals "MOST_ROWS" = some (some (.int 14 t_MOST_ROWS)))
    (e_STRANGE_BYTE : PySem.W.nsIn K mainGlobals "STRANGE_BYTE" = some (some (.int 1 t_STRANGE_BYTE)))
    (e_UNEVEN_ROWS : PySem.W.nsIn K mainGlobals "UNEVEN_ROWS" = some (some (.int 2 t_UNEVEN_ROWS)))
    (e_WRONG_SIZE : PySem.W.nsIn K mainGlobals "WRONG_SIZE" = some (some (.int 3 t_WRONG_SIZE)))
    (e_NOT_ONE_PLAYER : PySem.W.nsIn K mainGlobals "NOT_ONE_PLAYER" = some (some (.int 4 t_NOT_ONE_PLAYER)))
    (e_GOES_ON : PySem.W.nsIn K mainGlobals "GOES_ON" = some (some (.int 0 t_GOES_ON)))
    (e_WON : PySem.W.nsIn K mainGlobals "WON" = some (some (.int 1 t_WON)))
    (e_LOST : PySem.W.nsIn K mainGlobals "LOST" = some (some (.int 2 t_LOST)))
    (e_RIGHT : PySem.W.nsIn K mainGlobals "RIGHT" = some (some (.int 0 t_RIGHT)))
    (e_DOWN : PySem.W.nsIn K mainGlobals "DOWN" = some (some (.int 1 t_DOWN)))
    (e_LEFT : PySem.W.nsIn K mainGlobals "LEFT" = some (some (.int 2 t_LEFT)))
    (e_POINTS_FOR_GEM : PySem.W.nsIn K mainGlobals "POINTS_FOR_GEM" = some (some (.int 10 t_POINTS_FOR_GEM)))
    (e_POINTS_FOR_MONSTER : PySem.W.nsIn K mainGlobals "POINTS_FOR_MONSTER" = some (some (.int 20 t_POINTS_FOR_MONSTER)))
    (e_POINTS_FOR_WAY_OUT : PySem.W.nsIn K mainGlobals "POINTS_FOR_WAY_OUT" = some (some (.int 100 t_POINTS_FOR_WAY_OUT)))
    (e_FIRST_TEXT : PySem.W.nsIn K mainGlobals "FIRST_TEXT" = some (some (.ref p_FIRST_TEXT)))
    (lo_FIRST_TEXT : K.lookup p_FIRST_TEXT = some o_FIRST_TEXT) (oc_FIRST_TEXT : o_FIRST_TEXT.cls = .type "tuple") (od_FIRST_TEXT : o_FIRST_TEXT.data = .seq i_FIRST_TEXT n_FIRST_TEXT) (oz_FIRST_TEXT : i_FIRST_TEXT.size ≤ sizeLine) (ov_FIRST_TEXT : Vals (([35, 35, 35, 10, 35, 64, 35, 10, 35, 35, 35, 10] : List Nat).map U.iv) i_FIRST_TEXT.toList)
    (e_FIRST_TICK_PARTS : PySem.W.nsIn K mainGlobals "FIRST_TICK_PARTS" = some (some (.int 10 t_FIRST_TICK_PARTS)))
    (e_MOST_BYTES : PySem.W.nsIn K mainGlobals "MOST_BYTES" = some (some (.int 300 t_MOST_BYTES)))
    (e_MOST_BYTE : PySem.W.nsIn K mainGlobals "MOST_BYTE" = some (some (.int 255 t_MOST_BYTE)))
    (e_MOST_KEY : PySem.W.nsIn K mainGlobals "MOST_KEY" = some (some (.int 4 t_MOST_KEY)))
    (e_MOST_FRAME_PARTS : PySem.W.nsIn K mainGlobals "MOST_FRAME_PARTS" = some (some (.int 1000 t_MOST_FRAME_PARTS)))
    (e_MOST_TICK_PARTS : PySem.W.nsIn K mainGlobals "MOST_TICK_PARTS" = some (some (.int 100 t_MOST_TICK_PARTS)))
    (e_MOST_TICKS : PySem.W.nsIn K mainGlobals "MOST_TICKS" = some (some (.int 400 t_MOST_TICKS)))
    (e_MOST_PRESSED : PySem.W.nsIn K mainGlobals "MOST_PRESSED" = some (some (.int 100 t_MOST_PRESSED)))
    (e_LAST_WHERE : PySem.W.nsIn K mainGlobals "LAST_WHERE" = some (some (.int 9 t_LAST_WHERE)))
    (e_BEYOND_BOUNDS : PySem.W.nsIn K mainGlobals "BEYOND_BOUNDS" = some (some (.int 1 t_BEYOND_BOUNDS)))
    (e_NOT_THERE : PySem.W.nsIn K mainGlobals "NOT_THERE" = some (some (.int 2 t_NOT_THERE)))
    (e_TOO_MANY_TICKS : PySem.W.nsIn K mainGlobals "TOO_MANY_TICKS" = some (some (.int 5 t_TOO_MANY_TICKS)))
    (e_ALIKE : PySem.W.nsIn K mainGlobals "ALIKE" = some (some (.int 6 t_ALIKE)))
    (e_FAULT : PySem.W.nsIn K mainGlobals "FAULT" = some (some (.int 10 t_FAULT)))
    (e_CALLS : PySem.W.nsIn K mainGlobals "CALLS" = some (some (.ref p_CALLS)))
    (lo_CALLS : K.lookup p_CALLS = some o_CALLS) (oc_CALLS : o_CALLS.cls = .type "tuple") (od_CALLS : o_CALLS.data = .seq i_CALLS n_CALLS) (oz_CALLS : i_CALLS.size ≤ sizeLine) (ov_CALLS : Vals [.ref f_answer_cave, .ref f_answer_hold, .ref f_answer_frame, .ref f_answer_speed, .ref f_answer_save, .ref f_answer_load, .ref f_answer_shows, .ref f_answer_place, .ref f_answer_seen, .ref f_answer_back, .ref f_answer_keys, .ref f_answer_play, .ref f_answer_counts, .ref f_answer_differ] i_CALLS.toList)
    (e_ROW_CALLS : PySem.W.nsIn K mainGlobals "ROW_CALLS" = some (some (.ref p_ROW_CALLS)))
    (lo_ROW_CALLS : K.lookup p_ROW_CALLS = some o_ROW_CALLS) (oc_ROW_CALLS : o_ROW_CALLS.cls = .type "tuple") (od_ROW_CALLS : o_ROW_CALLS.data = .seq i_ROW_CALLS n_ROW_CALLS) (oz_ROW_CALLS : i_ROW_CALLS.size ≤ sizeLine) (ov_ROW_CALLS : Vals (([0, 11] : List Nat).map U.iv) i_ROW_CALLS.toList)
    (e_GIVEN_COUNTS : PySem.W.nsIn K mainGlobals "GIVEN_COUNTS" = some (some (.ref p_GIVEN_COUNTS)))
    (lo_GIVEN_COUNTS : K.lookup p_GIVEN_COUNTS = some ⟨.type "dict", none, .dict es_GIVEN_COUNTS n_GIVEN_COUNTS, #[]⟩) (ov_GIVEN_COUNTS : U.Ents es_GIVEN_COUNTS.toList [(1, 1), (2, 1), (3, 1), (4, 1), (5, 1), (6, 0), (7, 2), (8, 1), (9, 1), (10, 0), (12, 0), (13, 1)])
    (z_any : PySem.W.nsIn K mainGlobals "any" = some none)
    (z_enumerate : PySem.W.nsIn K mainGlobals "enumerate" = some none)
    (z_len : PySem.W.nsIn K mainGlobals "len" = some none)
    (z_list : PySem.W.nsIn K mainGlobals "list" = some none)
    (z_min : PySem.W.nsIn K mainGlobals "min" = some none)
    (z_range : PySem.W.nsIn K mainGlobals "range" = some none)
    (a_Cave : PySem.W.nsIn K mainGlobals "Cave" = some (some (.ref C_Cave))) (mk_Cave : PySem.W.makesIn K C_Cave = true) (ai_Cave : PySem.W.findIn K (.ref C_Cave) "__init__" = some (some (.ref f_Cave))) (i_Cave : PySem.W.isFn K (.ref f_Cave) = true) (kc_Cave : PySem.W.keepIn K (.ref C_Cave) = true)
    (l_Cave : K.lookup f_Cave = some ⟨oc_Cave, od_Cave, .func (PySem.W.fnOf "__init__" "Cave.__init__" (C8.fnArgs s_Cave_init) (C8.fnBody s_Cave_init) (C8.fnScope s_Cave_init) .none kV_Cave dc_Cave pm_Cave an_Cave cd_Cave ct_Cave), sl_Cave⟩) (c_Cave : PySem.W.codeIn K cd_Cave "Cave.__init__" = true)
    (pg_Cave : PySem.W.plainGet K C_Cave Str.empty = true) (hd_Cave : PySem.W.hasDictIn K C_Cave = true) (po_Cave : PySem.W.plainOver K C_Cave = true) (sa_Cave : PySem.W.findIn K (.ref C_Cave) "__setattr__" = some (some (.builtin "object.__setattr__")))
    (na_Cave_wide : PySem.W.findIn K (.ref C_Cave) "wide" = some none)
    (na_Cave_high : PySem.W.findIn K (.ref C_Cave) "high" = some none)
    (na_Cave_places : PySem.W.findIn K (.ref C_Cave) "places" = some none)
    (a_Standing : PySem.W.nsIn K mainGlobals "Standing" = some (some (.ref C_Standing))) (mk_Standing : PySem.W.makesIn K C_Standing = true) (ai_Standing : PySem.W.findIn K (.ref C_Standing) "__init__" = some (some (.ref f_Standing))) (i_Standing : PySem.W.isFn K (.ref f_Standing) = true) (kc_Standing : PySem.W.keepIn K (.ref C_Standing) = true)
    (l_Standing : K.lookup f_Standing = some ⟨oc_Standing, od_Standing, .func (PySem.W.fnOf "__init__" "Standing.__init__" (C8.fnArgs s_Standing_init) (C8.fnBody s_Standing_init) (C8.fnScope s_Standing_init) .none kV_Standing dc_Standing pm_Standing an_Standing cd_Standing ct_Standing), sl_Standing⟩) (c_Standing : PySem.W.codeIn K cd_Standing "Standing.__init__" = true)
    (pg_Standing : PySem.W.plainGet K C_Standing Str.empty = true) (hd_Standing : PySem.W.hasDictIn K C_Standing = true) (po_Standing : PySem.W.plainOver K C_Standing = true) (sa_Standing : PySem.W.findIn K (.ref C_Standing) "__setattr__" = some (some (.builtin "object.__setattr__")))
    (na_Standing_cave : PySem.W.findIn K (.ref C_Standing) "cave" = some none)
    (na_Standing_outcome : PySem.W.findIn K (.ref C_Standing) "outcome" = some none)
    (na_Standing_points : PySem.W.findIn K (.ref C_Standing) "points" = some none)
    (a_Tick : PySem.W.nsIn K mainGlobals "Tick" = some (some (.ref C_Tick))) (mk_Tick : PySem.W.makesIn K C_Tick = true) (ai_Tick : PySem.W.findIn K (.ref C_Tick) "__init__" = some (some (.ref f_Tick))) (i_Tick : PySem.W.isFn K (.ref f_Tick) = true) (kc_Tick : PySem.W.keepIn K (.ref C_Tick) = true)
    (l_Tick : K.lookup f_Tick = some ⟨oc_Tick, od_Tick, .func (PySem.W.fnOf "__init__" "Tick.__init__" (C8.fnArgs s_Tick_init) (C8.fnBody s_Tick_init) (C8.fnScope s_Tick_init) .none kV_Tick dc_Tick pm_Tick an_Tick cd_Tick ct_Tick), sl_Tick⟩) (c_Tick : PySem.W.codeIn K cd_Tick "Tick.__init__" = true)
    (pg_Tick : PySem.W.plainGet K C_Tick Str.empty = true) (hd_Tick : PySem.W.hasDictIn K C_Tick = true) (po_Tick : PySem.W.plainOver K C_Tick = true) (sa_Tick : PySem.W.findIn K (.ref C_Tick) "__setattr__" = some (some (.builtin "object.__setattr__")))
    (na_Tick_standing : PySem.W.findIn K (.ref C_Tick) "standing" = some none)
    (na_Tick_places : PySem.W.findIn K (.ref C_Tick) "places" = some none)
    (na_Tick_steps_to : PySem.W.findIn K (.ref C_Tick) "steps_to" = some none)
    (na_Tick_key : PySem.W.findIn K (.ref C_Tick) "key" = some none)
    (na_Tick_had_turn : PySem.W.findIn K (.ref C_Tick) "had_turn" = some none)
    (a_Game : PySem.W.nsIn K mainGlobals "Game" = some (some (.ref C_Game))) (mk_Game : PySem.W.makesIn K C_Game = true) (ai_Game : PySem.W.findIn K (.ref C_Game) "__init__" = some (some (.ref f_Game))) (i_Game : PySem.W.isFn K (.ref f_Game) = true) (kc_Game : PySem.W.keepIn K (.ref C_Game) = true)
    (l_Game : K.lookup f_Game = some ⟨oc_Game, od_Game, .func (PySem.W.fnOf "__init__" "Game.__init__" (C8.fnArgs s_Game_init) (C8.fnBody s_Game_init) (C8.fnScope s_Game_init) .none kV_Game dc_Game pm_Game an_Game cd_Game ct_Game), sl_Game⟩) (c_Game : PySem.W.codeIn K cd_Game "Game.__init__" = true)
    (pg_Game : PySem.W.plainGet K C_Game Str.empty = true) (hd_Game : PySem.W.hasDictIn K C_Game = true) (po_Game : PySem.W.plainOver K C_Game = true) (sa_Game : PySem.W.findIn K (.ref C_Game) "__setattr__" = some (some (.builtin "object.__setattr__")))
    (na_Game_stood : PySem.W.findIn K (.ref C_Game) "stood" = some none)
    (na_Game_pressed : PySem.W.findIn K (.ref C_Game) "pressed" = some none)
    (na_Game_left_over : PySem.W.findIn K (.ref C_Game) "left_over" = some none)
    (na_Game_tick_parts : PySem.W.findIn K (.ref C_Game) "tick_parts" = some none)
    (na_Game_held : PySem.W.findIn K (.ref C_Game) "held" = some none)
    (a_Session : PySem.W.nsIn K mainGlobals "Session" = some (some (.ref C_Session))) (mk_Session : PySem.W.makesIn K C_Session = true) (ai_Session : PySem.W.findIn K (.ref C_Session) "__init__" = some (some (.ref f_Session))) (i_Session : PySem.W.isFn K (.ref f_Session) = true) (kc_Session : PySem.W.keepIn K (.ref C_Session) = true)
    (l_Session : K.lookup f_Session = some ⟨oc_Session, od_Session, .func (PySem.W.fnOf "__init__" "Session.__init__" (C8.fnArgs s_Session_init) (C8.fnBody s_Session_init) (C8.fnScope s_Session_init) .none kV_Session dc_Session pm_Session an_Session cd_Session ct_Session), sl_Session⟩) (c_Session : PySem.W.codeIn K cd_Session "Session.__init__" = true)
    (pg_Session : PySem.W.plainGet K C_Session Str.empty = true) (hd_Session : PySem.W.hasDictIn K C_Session = true) (po_Session : PySem.W.plainOver K C_Session = true) (sa_Session : PySem.W.findIn K (.ref C_Session) "__setattr__" = some (some (.builtin "object.__setattr__")))
    (na_Session_game : PySem.W.findIn K (.ref C_Session) "game" = some none)
    (na_Session_kept : PySem.W.findIn K (.ref C_Session) "kept" = some none) :
    ∃ fd : FuncData, (∀ (s : Shared) (us : List Value), us.length = (["calls"] : List Str).length → BindsTo s fd ⟨us, []⟩ ((["calls"] : List Str).zip us)) ∧ ∀ base : Heap, K.In base → base.Ns mainGlobals mg → FnOk P w K mg base C8.CX0 10 fa fd ["calls"] (spAnswers K) := by
  have e := hfa.symm.trans (PySem.W.mg_of X G a_answers)
  cases e
  have T : Txt K mg ⟨C_Cave, C_Standing, C_Tick, C_Game, C_Session, p_BYTES, p_FIRST_TEXT, p_CALLS, p_ROW_CALLS, p_GIVEN_COUNTS, f_answer_cave, f_answer_hold, f_answer_frame, f_answer_speed, f_answer_save, f_answer_load, f_answer_shows, f_answer_place, f_answer_seen, f_answer_back, f_answer_keys, f_answer_play, f_answer_counts, f_answer_differ⟩ := {
    g_NOTHING := U.int_mk X G e_NOTHING
    g_EARTH := U.int_mk X G e_EARTH
    g_WALL := U.int_mk X G e_WALL
    g_LYING_STONE := U.int_mk X G e_LYING_STONE
    g_FALLING_STONE := U.int_mk X G e_FALLING_STONE
    g_LYING_GEM := U.int_mk X G e_LYING_GEM
    g_FALLING_GEM := U.int_mk X G e_FALLING_GEM
    g_PLAYER := U.int_mk X G e_PLAYER
    g_MONSTER_RIGHT := U.int_mk X G e_MONSTER_RIGHT
    g_MONSTER_UP := U.int_mk X G e_MONSTER_UP
    g_WAY_OUT := U.int_mk X G e_WAY_OUT
    g_BYTES := U.ref_mk X G e_BYTES
    q_BYTES := U.tup_mk lo_BYTES oc_BYTES od_BYTES oz_BYTES ov_BYTES
    g_ROW_END := U.int_mk X G e_ROW_END
    g_MOST_IN_A_ROW := U.int_mk X G e_MOST_IN_A_ROW
    g_MOST_ROWS := U.int_mk X G e_MOST_ROWS
    g_STRANGE_BYTE := U.int_mk X G e_STRANGE_BYTE
    g_UNEVEN_ROWS := U.int_mk X G e_UNEVEN_ROWS
    g_WRONG_SIZE := U.int_mk X G e_WRONG_SIZE
    g_NOT_ONE_PLAYER := U.int_mk X G e_NOT_ONE_PLAYER
    g_GOES_ON := U.int_mk X G e_GOES_ON
    g_WON := U.int_mk X G e_WON
    g_LOST := U.int_mk X G e_LOST
    g_RIGHT := U.int_mk X G e_RIGHT
    g_DOWN := U.int_mk X G e_DOWN
    g_LEFT := U.int_mk X G e_LEFT
    g_POINTS_FOR_GEM := U.int_mk X G e_POINTS_FOR_GEM
    g_POINTS_FOR_MONSTER := U.int_mk X G e_POINTS_FOR_MONSTER
    g_POINTS_FOR_WAY_OUT := U.int_mk X G e_POINTS_FOR_WAY_OUT
    g_FIRST_TEXT := U.ref_mk X G e_FIRST_TEXT
    q_FIRST_TEXT := U.tup_mk lo_FIRST_TEXT oc_FIRST_TEXT od_FIRST_TEXT oz_FIRST_TEXT ov_FIRST_TEXT
    g_FIRST_TICK_PARTS := U.int_mk X G e_FIRST_TICK_PARTS
    g_MOST_BYTES := U.int_mk X G e_MOST_BYTES
    g_MOST_BYTE := U.int_mk X G e_MOST_BYTE
    g_MOST_KEY := U.int_mk X G e_MOST_KEY
    g_MOST_FRAME_PARTS := U.int_mk X G e_MOST_FRAME_PARTS
    g_MOST_TICK_PARTS := U.int_mk X G e_MOST_TICK_PARTS
    g_MOST_TICKS := U.int_mk X G e_MOST_TICKS
    g_MOST_PRESSED := U.int_mk X G e_MOST_PRESSED
    g_LAST_WHERE := U.int_mk X G e_LAST_WHERE
    g_BEYOND_BOUNDS := U.int_mk X G e_BEYOND_BOUNDS
    g_NOT_THERE := U.int_mk X G e_NOT_THERE
    g_TOO_MANY_TICKS := U.int_mk X G e_TOO_MANY_TICKS
    g_ALIKE := U.int_mk X G e_ALIKE
    g_FAULT := U.int_mk X G e_FAULT
    g_CALLS := U.ref_mk X G e_CALLS
    q_CALLS := U.tup_mk lo_CALLS oc_CALLS od_CALLS oz_CALLS ov_CALLS
    g_ROW_CALLS := U.ref_mk X G e_ROW_CALLS
    q_ROW_CALLS := U.tup_mk lo_ROW_CALLS oc_ROW_CALLS od_ROW_CALLS oz_ROW_CALLS ov_ROW_CALLS
    g_GIVEN_COUNTS := U.ref_mk X G e_GIVEN_COUNTS
    q_GIVEN_COUNTS := U.kint_mk lo_GIVEN_COUNTS ov_GIVEN_COUNTS
    n_any := PySem.W.mg_none_of X G z_any
    n_enumerate := PySem.W.mg_none_of X G z_enumerate
    n_len := PySem.W.mg_none_of X G z_len
    n_list := PySem.W.mg_none_of X G z_list
    n_min := PySem.W.mg_none_of X G z_min
    n_range := PySem.W.mg_none_of X G z_range
    k_Cave := U.ck_mk pg_Cave hd_Cave po_Cave sa_Cave (U.na_cons na_Cave_wide (U.na_cons na_Cave_high (U.na_cons na_Cave_places U.na_nil)))
    d_Cave := U.mkd_mk X G a_Cave mk_Cave ai_Cave i_Cave kc_Cave l_Cave c_Cave (fun _ _ _ _ _ _ us hl => match us, hl with | [_, _, _, _], _ => rfl)
    k_Standing := U.ck_mk pg_Standing hd_Standing po_Standing sa_Standing (U.na_cons na_Standing_cave (U.na_cons na_Standing_outcome (U.na_cons na_Standing_points U.na_nil)))
    d_Standing := U.mkd_mk X G a_Standing mk_Standing ai_Standing i_Standing kc_Standing l_Standing c_Standing (fun _ _ _ _ _ _ us hl => match us, hl with | [_, _], _ => rfl)
    k_Tick := U.ck_mk pg_Tick hd_Tick po_Tick sa_Tick (U.na_cons na_Tick_standing (U.na_cons na_Tick_places (U.na_cons na_Tick_steps_to (U.na_cons na_Tick_key (U.na_cons na_Tick_had_turn U.na_nil)))))
    d_Tick := U.mkd_mk X G a_Tick mk_Tick ai_Tick i_Tick kc_Tick l_Tick c_Tick (fun _ _ _ _ _ _ us hl => match us, hl with | [_, _, _], _ => rfl)
    k_Game := U.ck_mk pg_Game hd_Game po_Game sa_Game (U.na_cons na_Game_stood (U.na_cons na_Game_pressed (U.na_cons na_Game_left_over (U.na_cons na_Game_tick_parts (U.na_cons na_Game_held U.na_nil)))))
    d_Game := U.mkd_mk X G a_Game mk_Game ai_Game i_Game kc_Game l_Game c_Game (fun _ _ _ _ _ _ us hl => match us, hl with | [_, _, _], _ => rfl)
    k_Session := U.ck_mk pg_Session hd_Session po_Session sa_Session (U.na_cons na_Session_game (U.na_cons na_Session_kept U.na_nil))
    d_Session := U.mkd_mk X G a_Session mk_Session ai_Session i_Session kc_Session l_Session c_Session (fun _ _ _ _ _ _ us hl => match us, hl with | [_], _ => rfl)
    m_answer_cave := PySem.W.mg_of X G a_answer_cave
    m_answer_hold := PySem.W.mg_of X G a_answer_hold
    m_answer_frame := PySem.W.mg_of X G a_answer_frame
    m_answer_speed := PySem.W.mg_of X G a_answer_speed
    m_answer_save := PySem.W.mg_of X G a_answer_save
    m_answer_load := PySem.W.mg_of X G a_answer_load
    m_answer_shows := PySem.W.mg_of X G a_answer_shows
    m_answer_place := PySem.W.mg_of X G a_answer_place
    m_answer_seen := PySem.W.mg_of X G a_answer_seen
    m_answer_back := PySem.W.mg_of X G a_answer_back
    m_answer_keys := PySem.W.mg_of X G a_answer_keys
    m_answer_play := PySem.W.mg_of X G a_answer_play
    m_answer_counts := PySem.W.mg_of X G a_answer_counts
    m_answer_differ := PySem.W.mg_of X G a_answer_differ
    d_is_known_byte := U.dd_mk X G a_is_known_byte l_is_known_byte c_is_known_byte k_is_known_byte (fun _ _ _ _ _ _ us hl => match us, hl with | [_], _ => rfl)
    d_byte_of := U.dd_mk X G a_byte_of l_byte_of c_byte_of k_byte_of (fun _ _ _ _ _ _ us hl => match us, hl with | [_], _ => rfl)
    d_thing_of := U.dd_mk X G a_thing_of l_thing_of c_thing_of k_thing_of (fun _ _ _ _ _ _ us hl => match us, hl with | [_], _ => rfl)
    d_count_kinds := U.dd_mk X G a_count_kinds l_count_kinds c_count_kinds k_count_kinds (fun _ _ _ _ _ _ us hl => match us, hl with | [], _ => rfl)
    d_is_lying := U.dd_mk X G a_is_lying l_is_lying c_is_lying k_is_lying (fun _ _ _ _ _ _ us hl => match us, hl with | [_], _ => rfl)
    d_is_falling := U.dd_mk X G a_is_falling l_is_falling c_is_falling k_is_falling (fun _ _ _ _ _ _ us hl => match us, hl with | [_], _ => rfl)
    d_is_gem := U.dd_mk X G a_is_gem l_is_gem c_is_gem k_is_gem (fun _ _ _ _ _ _ us hl => match us, hl with | [_], _ => rfl)
    d_is_monster := U.dd_mk X G a_is_monster l_is_monster c_is_monster k_is_monster (fun _ _ _ _ _ _ us hl => match us, hl with | [_], _ => rfl)
    d_lying := U.dd_mk X G a_lying l_lying c_lying k_lying (fun _ _ _ _ _ _ us hl => match us, hl with | [_], _ => rfl)
    d_falling := U.dd_mk X G a_falling l_falling c_falling k_falling (fun _ _ _ _ _ _ us hl => match us, hl with | [_], _ => rfl)
    d_stride := U.dd_mk X G a_stride l_stride c_stride k_stride (fun _ _ _ _ _ _ us hl => match us, hl with | [_], _ => rfl)
    d_steps := U.dd_mk X G a_steps l_steps c_steps k_steps (fun _ _ _ _ _ _ us hl => match us, hl with | [_], _ => rfl)
    d_row_begin := U.dd_mk X G a_row_begin l_row_begin c_row_begin k_row_begin (fun _ _ _ _ _ _ us hl => match us, hl with | [_, _], _ => rfl)
    d_row_of := U.dd_mk X G a_row_of l_row_of c_row_of k_row_of (fun _ _ _ _ _ _ us hl => match us, hl with | [_, _], _ => rfl)
    d_is_within := U.dd_mk X G a_is_within l_is_within c_is_within k_is_within (fun _ _ _ _ _ _ us hl => match us, hl with | [_, _, _], _ => rfl)
    d_thing_at := U.dd_mk X G a_thing_at l_thing_at c_thing_at k_thing_at (fun _ _ _ _ _ _ us hl => match us, hl with | [_, _, _], _ => rfl)
    d_copy_cave := U.dd_mk X G a_copy_cave l_copy_cave c_copy_cave k_copy_cave (fun _ _ _ _ _ _ us hl => match us, hl with | [_], _ => rfl)
    d_are_same_caves := U.dd_mk X G a_are_same_caves l_are_same_caves c_are_same_caves k_are_same_caves (fun _ _ _ _ _ _ us hl => match us, hl with | [_, _], _ => rfl)
    d_count_gems := U.dd_mk X G a_count_gems l_count_gems c_count_gems k_count_gems (fun _ _ _ _ _ _ us hl => match us, hl with | [_], _ => rfl)
    d_count_things := U.dd_mk X G a_count_things l_count_things c_count_things k_count_things (fun _ _ _ _ _ _ us hl => match us, hl with | [_], _ => rfl)
    d_split_rows := U.dd_mk X G a_split_rows l_split_rows c_split_rows k_split_rows (fun _ _ _ _ _ _ us hl => match us, hl with | [_], _ => rfl)
    d_has_strange_byte := U.dd_mk X G a_has_strange_byte l_has_strange_byte c_has_strange_byte k_has_strange_byte (fun _ _ _ _ _ _ us hl => match us, hl with | [_], _ => rfl)
    d_has_uneven_rows := U.dd_mk X G a_has_uneven_rows l_has_uneven_rows c_has_uneven_rows k_has_uneven_rows (fun _ _ _ _ _ _ us hl => match us, hl with | [_], _ => rfl)
    d_has_wrong_size := U.dd_mk X G a_has_wrong_size l_has_wrong_size c_has_wrong_size k_has_wrong_size (fun _ _ _ _ _ _ us hl => match us, hl with | [_], _ => rfl)
    d_find_fault := U.dd_mk X G a_find_fault l_find_fault c_find_fault k_find_fault (fun _ _ _ _ _ _ us hl => match us, hl with | [_], _ => rfl)
    d_read_cave := U.dd_mk X G a_read_cave l_read_cave c_read_cave k_read_cave (fun _ _ _ _ _ _ us hl => match us, hl with | [_], _ => rfl)
    d_write_cave := U.dd_mk X G a_write_cave l_write_cave c_write_cave k_write_cave (fun _ _ _ _ _ _ us hl => match us, hl with | [_], _ => rfl)
    d_copy_standing := U.dd_mk X G a_copy_standing l_copy_standing c_copy_standing k_copy_standing (fun _ _ _ _ _ _ us hl => match us, hl with | [_], _ => rfl)
    d_stand_alike := U.dd_mk X G a_stand_alike l_stand_alike c_stand_alike k_stand_alike (fun _ _ _ _ _ _ us hl => match us, hl with | [_, _], _ => rfl)
    d_is_over := U.dd_mk X G a_is_over l_is_over c_is_over k_is_over (fun _ _ _ _ _ _ us hl => match us, hl with | [_], _ => rfl)
    d_run_tick := U.dd_mk X G a_run_tick l_run_tick c_run_tick k_run_tick (fun _ _ _ _ _ _ us hl => match us, hl with | [_, _], _ => rfl)
    d_take_turn := U.dd_mk X G a_take_turn l_take_turn c_take_turn k_take_turn (fun _ _ _ _ _ _ us hl => match us, hl with | [_, _], _ => rfl)
    d_go := U.dd_mk X G a_go l_go c_go k_go (fun _ _ _ _ _ _ us hl => match us, hl with | [_, _, _, _], _ => rfl)
    d_end := U.dd_mk X G a_end l_end c_end k_end (fun _ _ _ _ _ _ us hl => match us, hl with | [_, _], _ => rfl)
    d_score := U.dd_mk X G a_score l_score c_score k_score (fun _ _ _ _ _ _ us hl => match us, hl with | [_, _], _ => rfl)
    d_turn_player := U.dd_mk X G a_turn_player l_turn_player c_turn_player k_turn_player (fun _ _ _ _ _ _ us hl => match us, hl with | [_, _], _ => rfl)
    d_push := U.dd_mk X G a_push l_push c_push k_push (fun _ _ _ _ _ _ us hl => match us, hl with | [_, _, _], _ => rfl)
    d_turn_loose := U.dd_mk X G a_turn_loose l_turn_loose c_turn_loose k_turn_loose (fun _ _ _ _ _ _ us hl => match us, hl with | [_, _], _ => rfl)
    d_hit_monster := U.dd_mk X G a_hit_monster l_hit_monster c_hit_monster k_hit_monster (fun _ _ _ _ _ _ us hl => match us, hl with | [_, _, _], _ => rfl)
    d_roll := U.dd_mk X G a_roll l_roll c_roll k_roll (fun _ _ _ _ _ _ us hl => match us, hl with | [_, _], _ => rfl)
    d_turn_monster := U.dd_mk X G a_turn_monster l_turn_monster c_turn_monster k_turn_monster (fun _ _ _ _ _ _ us hl => match us, hl with | [_, _], _ => rfl)
    d_copy_game := U.dd_mk X G a_copy_game l_copy_game c_copy_game k_copy_game (fun _ _ _ _ _ _ us hl => match us, hl with | [_], _ => rfl)
    d_count_ticks := U.dd_mk X G a_count_ticks l_count_ticks c_count_ticks k_count_ticks (fun _ _ _ _ _ _ us hl => match us, hl with | [_], _ => rfl)
    d_standing_behind := U.dd_mk X G a_standing_behind l_standing_behind c_standing_behind k_standing_behind (fun _ _ _ _ _ _ us hl => match us, hl with | [_, _], _ => rfl)
    d_standing_now := U.dd_mk X G a_standing_now l_standing_now c_standing_now k_standing_now (fun _ _ _ _ _ _ us hl => match us, hl with | [_], _ => rfl)
    d_how_it_stood := U.dd_mk X G a_how_it_stood l_how_it_stood c_how_it_stood k_how_it_stood (fun _ _ _ _ _ _ us hl => match us, hl with | [_, _], _ => rfl)
    d_how_it_stands := U.dd_mk X G a_how_it_stands l_how_it_stands c_how_it_stands k_how_it_stands (fun _ _ _ _ _ _ us hl => match us, hl with | [_], _ => rfl)
    d_press := U.dd_mk X G a_press l_press c_press k_press (fun _ _ _ _ _ _ us hl => match us, hl with | [_, _], _ => rfl)
    d_go_back := U.dd_mk X G a_go_back l_go_back c_go_back k_go_back (fun _ _ _ _ _ _ us hl => match us, hl with | [_, _], _ => rfl)
    d_find_parting := U.dd_mk X G a_find_parting l_find_parting c_find_parting k_find_parting (fun _ _ _ _ _ _ us hl => match us, hl with | [_, _], _ => rfl)
    d_cave_now := U.dd_mk X G a_cave_now l_cave_now c_cave_now k_cave_now (fun _ _ _ _ _ _ us hl => match us, hl with | [_], _ => rfl)
    d_refuse := U.dd_mk X G a_refuse l_refuse c_refuse k_refuse (fun _ _ _ _ _ _ us hl => match us, hl with | [_], _ => rfl)
    d_answer_cave := U.dd_mk X G a_answer_cave l_answer_cave c_answer_cave k_answer_cave (fun _ _ _ _ _ _ us hl => match us, hl with | [_, _], _ => rfl)
    d_answer_hold := U.dd_mk X G a_answer_hold l_answer_hold c_answer_hold k_answer_hold (fun _ _ _ _ _ _ us hl => match us, hl with | [_, _], _ => rfl)
    d_are_too_many := U.dd_mk X G a_are_too_many l_are_too_many c_are_too_many k_are_too_many (fun _ _ _ _ _ _ us hl => match us, hl with | [_, _], _ => rfl)
    d_answer_frame := U.dd_mk X G a_answer_frame l_answer_frame c_answer_frame k_answer_frame (fun _ _ _ _ _ _ us hl => match us, hl with | [_, _], _ => rfl)
    d_answer_speed := U.dd_mk X G a_answer_speed l_answer_speed c_answer_speed k_answer_speed (fun _ _ _ _ _ _ us hl => match us, hl with | [_, _], _ => rfl)
    d_answer_save := U.dd_mk X G a_answer_save l_answer_save c_answer_save k_answer_save (fun _ _ _ _ _ _ us hl => match us, hl with | [_, _], _ => rfl)
    d_answer_load := U.dd_mk X G a_answer_load l_answer_load c_answer_load k_answer_load (fun _ _ _ _ _ _ us hl => match us, hl with | [_, _], _ => rfl)
    d_counted_text := U.dd_mk X G a_counted_text l_counted_text c_counted_text k_counted_text (fun _ _ _ _ _ _ us hl => match us, hl with | [_], _ => rfl)
    d_answer_shows := U.dd_mk X G a_answer_shows l_answer_shows c_answer_shows k_answer_shows (fun _ _ _ _ _ _ us hl => match us, hl with | [_, _], _ => rfl)
    d_answer_place := U.dd_mk X G a_answer_place l_answer_place c_answer_place k_answer_place (fun _ _ _ _ _ _ us hl => match us, hl with | [_, _], _ => rfl)
    d_answer_seen := U.dd_mk X G a_answer_seen l_answer_seen c_answer_seen k_answer_seen (fun _ _ _ _ _ _ us hl => match us, hl with | [_, _], _ => rfl)
    d_answer_back := U.dd_mk X G a_answer_back l_answer_back c_answer_back k_answer_back (fun _ _ _ _ _ _ us hl => match us, hl with | [_, _], _ => rfl)
    d_answer_keys := U.dd_mk X G a_answer_keys l_answer_keys c_answer_keys k_answer_keys (fun _ _ _ _ _ _ us hl => match us, hl with | [_, _], _ => rfl)
    d_answer_play := U.dd_mk X G a_answer_play l_answer_play c_answer_play k_answer_play (fun _ _ _ _ _ _ us hl => match us, hl with | [_, _], _ => rfl)
    d_answer_counts := U.dd_mk X G a_answer_counts l_answer_counts c_answer_counts k_answer_counts (fun _ _ _ _ _ _ us hl => match us, hl with | [_, _], _ => rfl)
    d_answer_differ := U.dd_mk X G a_answer_differ l_answer_differ c_answer_differ k_answer_differ (fun _ _ _ _ _ _ us hl => match us, hl with | [_, _], _ => rfl)
    d_answer_call := U.dd_mk X G a_answer_call l_answer_call c_answer_call k_answer_call (fun _ _ _ _ _ _ us hl => match us, hl with | [_, _, _], _ => rfl)
    d_given_begin := U.dd_mk X G a_given_begin l_given_begin c_given_begin k_given_begin (fun _ _ _ _ _ _ us hl => match us, hl with | [_, _], _ => rfl)
    d_given_end := U.dd_mk X G a_given_end l_given_end c_given_end k_given_end (fun _ _ _ _ _ _ us hl => match us, hl with | [_, _], _ => rfl)
    d_answers := U.dd_mk X G a_answers l_answers c_answers k_answers (fun _ _ _ _ _ _ us hl => match us, hl with | [_], _ => rfl) }
  exact ⟨_, fun s us hu => match us, hu with | [_], _ => .of_eq rfl, fun base _ _ => ok_answers T (U.def_mk X G a_answers l_answers c_answers k_answers)⟩
end G

set_option Elab.async false
open PySem PySem.W PyProof.Rows
set_option maxRecDepth 100000 in
set_option maxHeartbeats 0 in
theorem PySem.Challenge.cw_stonecave_s01_answers_holds : PySem.Challenge.rw_stonecave_s01_answers.Holds := by
  w_on; k_headS; (case hw => exact ⟨[.list [.int 6]], by decide +kernel, by decide +kernel⟩)
  k_fillS
  refine L2.walk_specK (r := PySem.Challenge.rw_stonecave_s01_answers) (k := 10) (CX := C8.CX0) (ps := ["calls"]) (sp := G.spAnswers) (by decide +kernel) rfl rfl ⟨rfl, by decide, by decide⟩ (fun w h Y => PySem.W.kIn_of Y) ?F ?S (fun _ _ _ _ z => z)
  case F =>
    intro w mg fa h Y KX G0 hmg
    refine' G.txt_mk KX G0 hmg ?a_is_known_byte ?l_is_known_byte ?c_is_known_byte ?k_is_known_byte ?a_byte_of ?l_byte_of ?c_byte_of ?k_byte_of ?a_thing_of ?l_thing_of ?c_thing_of ?k_thing_of ?a_count_kinds ?l_count_kinds ?c_count_kinds ?k_count_kinds ?a_is_lying ?l_is_lying ?c_is_lying ?k_is_lying ?a_is_falling ?l_is_falling ?c_is_falling ?k_is_falling ?a_is_gem ?l_is_gem ?c_is_gem ?k_is_gem ?a_is_monster ?l_is_monster ?c_is_monster ?k_is_monster ?a_lying ?l_lying ?c_lying ?k_lying ?a_falling ?l_falling ?c_falling ?k_falling ?a_stride ?l_stride ?c_stride ?k_stride ?a_steps ?l_steps ?c_steps ?k_steps ?a_row_begin ?l_row_begin ?c_row_begin ?k_row_begin ?a_row_of ?l_row_of ?c_row_of ?k_row_of ?a_is_within ?l_is_within ?c_is_within ?k_is_within ?a_thing_at ?l_thing_at ?c_thing_at ?k_thing_at ?a_copy_cave ?l_copy_cave ?c_copy_cave ?k_copy_cave ?a_are_same_caves ?l_are_same_caves ?c_are_same_caves ?k_are_same_caves ?a_count_gems ?l_count_gems ?c_count_gems ?k_count_gems ?a_count_things ?l_count_things ?c_count_things ?k_count_things ?a_split_rows ?l_split_rows ?c_split_rows ?k_split_rows ?a_has_strange_byte ?l_has_strange_byte ?c_has_strange_byte ?k_has_strange_byte ?a_has_uneven_rows ?l_has_uneven_rows ?c_has_uneven_rows ?k_has_uneven_rows ?a_has_wrong_size ?l_has_wrong_size ?c_has_wrong_size ?k_has_wrong_size ?a_find_fault ?l_find_fault ?c_find_fault ?k_find_fault ?a_read_cave ?l_read_cave ?c_read_cave ?k_read_cave ?a_write_cave ?l_write_cave ?c_write_cave ?k_write_cave ?a_copy_standing ?l_copy_standing ?c_copy_standing ?k_copy_standing ?a_stand_alike ?l_stand_alike ?c_stand_alike ?k_stand_alike ?a_is_over ?l_is_over ?c_is_over ?k_is_over ?a_run_tick ?l_run_tick ?c_run_tick ?k_run_tick ?a_take_turn ?l_take_turn ?c_take_turn ?k_take_turn ?a_go ?l_go ?c_go ?k_go ?a_end ?l_end ?c_end ?k_end ?a_score ?l_score ?c_score ?k_score ?a_turn_player ?l_turn_player ?c_turn_player ?k_turn_player ?a_push ?l_push ?c_push ?k_push ?a_turn_loose ?l_turn_loose ?c_turn_loose ?k_turn_loose ?a_hit_monster ?l_hit_monster ?c_hit_monster ?k_hit_monster ?a_roll ?l_roll ?c_roll ?k_roll ?a_turn_monster ?l_turn_monster ?c_turn_monster ?k_turn_monster ?a_copy_game ?l_copy_game ?c_copy_game ?k_copy_game ?a_count_ticks ?l_count_ticks ?c_count_ticks ?k_count_ticks ?a_standing_behind ?l_standing_behind ?c_standing_behind ?k_standing_behind ?a_standing_now ?l_standing_now ?c_standing_now ?k_standing_now ?a_how_it_stood ?l_how_it_stood ?c_how_it_stood ?k_how_it_stood ?a_how_it_stands ?l_how_it_stands ?c_how_it_stands ?k_how_it_stands ?a_press ?l_press ?c_press ?k_press ?a_go_back ?l_go_back ?c_go_back ?k_go_back ?a_find_parting ?l_find_parting ?c_find_parting ?k_find_parting ?a_cave_now ?l_cave_now ?c_cave_now ?k_cave_now ?a_refuse ?l_refuse ?c_refuse ?k_refuse ?a_answer_cave ?l_answer_cave ?c_answer_cave ?k_answer_cave ?a_answer_hold ?l_answer_hold ?c_answer_hold ?k_answer_hold ?a_are_too_many ?l_are_too_many ?c_are_too_many ?k_are_too_many ?a_answer_frame ?l_answer_frame ?c_answer_frame ?k_answer_frame ?a_answer_speed ?l_answer_speed ?c_answer_speed ?k_answer_speed ?a_answer_save ?l_answer_save ?c_answer_save ?k_answer_save ?a_answer_load ?l_answer_load ?c_answer_load ?k_answer_load ?a_counted_text ?l_counted_text ?c_counted_text ?k_counted_text ?a_answer_shows ?l_answer_shows ?c_answer_shows ?k_answer_shows ?a_answer_place ?l_answer_place ?c_answer_place ?k_answer_place ?a_answer_seen ?l_answer_seen ?c_answer_seen ?k_answer_seen ?a_answer_back ?l_answer_back ?c_answer_back ?k_answer_back ?a_answer_keys ?l_answer_keys ?c_answer_keys ?k_answer_keys ?a_answer_play ?l_answer_play ?c_answer_play ?k_answer_play ?a_answer_counts ?l_answer_counts ?c_answer_counts ?k_answer_counts ?a_answer_differ ?l_answer_differ ?c_answer_differ ?k_answer_differ ?a_answer_call ?l_answer_call ?c_answer_call ?k_answer_call ?a_given_begin ?l_given_begin ?c_given_begin ?k_given_begin ?a_given_end ?l_given_end ?c_given_end ?k_given_end ?a_answers ?l_answers ?c_answers ?k_answers ?e_NOTHING ?e_EARTH ?e_WALL ?e_LYING_STONE ?e_FALLING_STONE ?e_LYING_GEM ?e_FALLING_GEM ?e_PLAYER ?e_MONSTER_RIGHT ?e_MONSTER_UP ?e_WAY_OUT ?e_BYTES ?lo_BYTES ?oc_BYTES ?od_BYTES ?oz_BYTES ?ov_BYTES ?e_ROW_END ?e_MOST_IN_A_ROW ?e_MOST_ROWS ?e_STRANGE_BYTE ?e_UNEVEN_ROWS ?e_WRONG_SIZE ?e_NOT_ONE_PLAYER ?e_GOES_ON ?e_WON ?e_LOST ?e_RIGHT ?e_DOWN ?e_LEFT ?e_POINTS_FOR_GEM ?e_POINTS_FOR_MONSTER ?e_POINTS_FOR_WAY_OUT ?e_FIRST_TEXT ?lo_FIRST_TEXT ?oc_FIRST_TEXT ?od_FIRST_TEXT ?oz_FIRST_TEXT ?ov_FIRST_TEXT ?e_FIRST_TICK_PARTS ?e_MOST_BYTES ?e_MOST_BYTE ?e_MOST_KEY ?e_MOST_FRAME_PARTS ?e_MOST_TICK_PARTS ?e_MOST_TICKS ?e_MOST_PRESSED ?e_LAST_WHERE ?e_BEYOND_BOUNDS ?e_NOT_THERE ?e_TOO_MANY_TICKS ?e_ALIKE ?e_FAULT ?e_CALLS ?lo_CALLS ?oc_CALLS ?od_CALLS ?oz_CALLS ?ov_CALLS ?e_ROW_CALLS ?lo_ROW_CALLS ?oc_ROW_CALLS ?od_ROW_CALLS ?oz_ROW_CALLS ?ov_ROW_CALLS ?e_GIVEN_COUNTS ?lo_GIVEN_COUNTS ?ov_GIVEN_COUNTS ?z_any ?z_enumerate ?z_len ?z_list ?z_min ?z_range ?a_Cave ?mk_Cave ?ai_Cave ?i_Cave ?kc_Cave ?l_Cave ?c_Cave ?pg_Cave ?hd_Cave ?po_Cave ?sa_Cave ?na_Cave_wide ?na_Cave_high ?na_Cave_places ?a_Standing ?mk_Standing ?ai_Standing ?i_Standing ?kc_Standing ?l_Standing ?c_Standing ?pg_Standing ?hd_Standing ?po_Standing ?sa_Standing ?na_Standing_cave ?na_Standing_outcome ?na_Standing_points ?a_Tick ?mk_Tick ?ai_Tick ?i_Tick ?kc_Tick ?l_Tick ?c_Tick ?pg_Tick ?hd_Tick ?po_Tick ?sa_Tick ?na_Tick_standing ?na_Tick_places ?na_Tick_steps_to ?na_Tick_key ?na_Tick_had_turn ?a_Game ?mk_Game ?ai_Game ?i_Game ?kc_Game ?l_Game ?c_Game ?pg_Game ?hd_Game ?po_Game ?sa_Game ?na_Game_stood ?na_Game_pressed ?na_Game_left_over ?na_Game_tick_parts ?na_Game_held ?a_Session ?mk_Session ?ai_Session ?i_Session ?kc_Session ?l_Session ?c_Session ?pg_Session ?hd_Session ?po_Session ?sa_Session ?na_Session_game ?na_Session_kept
    (case a_is_known_byte => k_is)
    (case l_is_known_byte => k_is)
    (case c_is_known_byte => k_is)
    (case k_is_known_byte => k_is)
    (case a_byte_of => k_is)
    (case l_byte_of => k_is)
    (case c_byte_of => k_is)
    (case k_byte_of => k_is)
    (case a_thing_of => k_is)
    (case l_thing_of => k_is)
    (case c_thing_of => k_is)
    (case k_thing_of => k_is)
    (case a_count_kinds => k_is)
    (case l_count_kinds => k_is)
    (case c_count_kinds => k_is)
    (case k_count_kinds => k_is)
    (case a_is_lying => k_is)
    (case l_is_lying => k_is)
    (case c_is_lying => k_is)
    (case k_is_lying => k_is)
    (case a_is_falling => k_is)
    (case l_is_falling => k_is)
    (case c_is_falling => k_is)
    (case k_is_falling => k_is)
    (case a_is_gem => k_is)
    (case l_is_gem => k_is)
    (case c_is_gem => k_is)
    (case k_is_gem => k_is)
    (case a_is_monster => k_is)
    (case l_is_monster => k_is)
    (case c_is_monster => k_is)
    (case k_is_monster => k_is)
    (case a_lying => k_is)
    (case l_lying => k_is)
    (case c_lying => k_is)
    (case k_lying => k_is)
    (case a_falling => k_is)
    (case l_falling => k_is)
    (case c_falling => k_is)
    (case k_falling => k_is)
    (case a_stride => k_is)
    (case l_stride => k_is)
    (case c_stride => k_is)
    (case k_stride => k_is)
    (case a_steps => k_is)
    (case l_steps => k_is)
    (case c_steps => k_is)
    (case k_steps => k_is)
    (case a_row_begin => k_is)
    (case l_row_begin => k_is)
    (case c_row_begin => k_is)
    (case k_row_begin => k_is)
    (case a_row_of => k_is)
    (case l_row_of => k_is)
    (case c_row_of => k_is)
    (case k_row_of => k_is)
    (case a_is_within => k_is)
    (case l_is_within => k_is)
    (case c_is_within => k_is)
    (case k_is_within => k_is)
    (case a_thing_at => k_is)
    (case l_thing_at => k_is)
    (case c_thing_at => k_is)
    (case k_thing_at => k_is)
    (case a_copy_cave => k_is)
    (case l_copy_cave => k_is)
    (case c_copy_cave => k_is)
    (case k_copy_cave => k_is)
    (case a_are_same_caves => k_is)
    (case l_are_same_caves => k_is)
    (case c_are_same_caves => k_is)
    (case k_are_same_caves => k_is)
    (case a_count_gems => k_is)
    (case l_count_gems => k_is)
    (case c_count_gems => k_is)
    (case k_count_gems => k_is)
    (case a_count_things => k_is)
    (case l_count_things => k_is)
    (case c_count_things => k_is)
    (case k_count_things => k_is)
    (case a_split_rows => k_is)
    (case l_split_rows => k_is)
    (case c_split_rows => k_is)
    (case k_split_rows => k_is)
    (case a_has_strange_byte => k_is)
    (case l_has_strange_byte => k_is)
    (case c_has_strange_byte => k_is)
    (case k_has_strange_byte => k_is)
    (case a_has_uneven_rows => k_is)
    (case l_has_uneven_rows => k_is)
    (case c_has_uneven_rows => k_is)
    (case k_has_uneven_rows => k_is)
    (case a_has_wrong_size => k_is)
    (case l_has_wrong_size => k_is)
    (case c_has_wrong_size => k_is)
    (case k_has_wrong_size => k_is)
    (case a_find_fault => k_is)
    (case l_find_fault => k_is)
    (case c_find_fault => k_is)
    (case k_find_fault => k_is)
    (case a_read_cave => k_is)
    (case l_read_cave => k_is)
    (case c_read_cave => k_is)
    (case k_read_cave => k_is)
    (case a_write_cave => k_is)
    (case l_write_cave => k_is)
    (case c_write_cave => k_is)
    (case k_write_cave => k_is)
    (case a_copy_standing => k_is)
    (case l_copy_standing => k_is)
    (case c_copy_standing => k_is)
    (case k_copy_standing => k_is)
    (case a_stand_alike => k_is)
    (case l_stand_alike => k_is)
    (case c_stand_alike => k_is)
    (case k_stand_alike => k_is)
    (case a_is_over => k_is)
    (case l_is_over => k_is)
    (case c_is_over => k_is)
    (case k_is_over => k_is)
    (case a_run_tick => k_is)
    (case l_run_tick => k_is)
    (case c_run_tick => k_is)
    (case k_run_tick => k_is)
    (case a_take_turn => k_is)
    (case l_take_turn => k_is)
    (case c_take_turn => k_is)
    (case k_take_turn => k_is)
    (case a_go => k_is)
    (case l_go => k_is)
    (case c_go => k_is)
    (case k_go => k_is)
    (case a_end => k_is)
    (case l_end => k_is)
    (case c_end => k_is)
    (case k_end => k_is)
    (case a_score => k_is)
    (case l_score => k_is)
    (case c_score => k_is)
    (case k_score => k_is)
    (case a_turn_player => k_is)
    (case l_turn_player => k_is)
    (case c_turn_player => k_is)
    (case k_turn_player => k_is)
    (case a_push => k_is)
    (case l_push => k_is)
    (case c_push => k_is)
    (case k_push => k_is)
    (case a_turn_loose => k_is)
    (case l_turn_loose => k_is)
    (case c_turn_loose => k_is)
    (case k_turn_loose => k_is)
    (case a_hit_monster => k_is)
    (case l_hit_monster => k_is)
    (case c_hit_monster => k_is)
    (case k_hit_monster => k_is)
    (case a_roll => k_is)
    (case l_roll => k_is)
    (case c_roll => k_is)
    (case k_roll => k_is)
    (case a_turn_monster => k_is)
    (case l_turn_monster => k_is)
    (case c_turn_monster => k_is)
    (case k_turn_monster => k_is)
    (case a_copy_game => k_is)
    (case l_copy_game => k_is)
    (case c_copy_game => k_is)
    (case k_copy_game => k_is)
    (case a_count_ticks => k_is)
    (case l_count_ticks => k_is)
    (case c_count_ticks => k_is)
    (case k_count_ticks => k_is)
    (case a_standing_behind => k_is)
    (case l_standing_behind => k_is)
    (case c_standing_behind => k_is)
    (case k_standing_behind => k_is)
    (case a_standing_now => k_is)
    (case l_standing_now => k_is)
    (case c_standing_now => k_is)
    (case k_standing_now => k_is)
    (case a_how_it_stood => k_is)
    (case l_how_it_stood => k_is)
    (case c_how_it_stood => k_is)
    (case k_how_it_stood => k_is)
    (case a_how_it_stands => k_is)
    (case l_how_it_stands => k_is)
    (case c_how_it_stands => k_is)
    (case k_how_it_stands => k_is)
    (case a_press => k_is)
    (case l_press => k_is)
    (case c_press => k_is)
    (case k_press => k_is)
    (case a_go_back => k_is)
    (case l_go_back => k_is)
    (case c_go_back => k_is)
    (case k_go_back => k_is)
    (case a_find_parting => k_is)
    (case l_find_parting => k_is)
    (case c_find_parting => k_is)
    (case k_find_parting => k_is)
    (case a_cave_now => k_is)
    (case l_cave_now => k_is)
    (case c_cave_now => k_is)
    (case k_cave_now => k_is)
    (case a_refuse => k_is)
    (case l_refuse => k_is)
    (case c_refuse => k_is)
    (case k_refuse => k_is)
    (case a_answer_cave => k_is)
    (case l_answer_cave => k_is)
    (case c_answer_cave => k_is)
    (case k_answer_cave => k_is)
    (case a_answer_hold => k_is)
    (case l_answer_hold => k_is)
    (case c_answer_hold => k_is)
    (case k_answer_hold => k_is)
    (case a_are_too_many => k_is)
    (case l_are_too_many => k_is)
    (case c_are_too_many => k_is)
    (case k_are_too_many => k_is)
    (case a_answer_frame => k_is)
    (case l_answer_frame => k_is)
    (case c_answer_frame => k_is)
    (case k_answer_frame => k_is)
    (case a_answer_speed => k_is)
    (case l_answer_speed => k_is)
    (case c_answer_speed => k_is)
    (case k_answer_speed => k_is)
    (case a_answer_save => k_is)
    (case l_answer_save => k_is)
    (case c_answer_save => k_is)
    (case k_answer_save => k_is)
    (case a_answer_load => k_is)
    (case l_answer_load => k_is)
    (case c_answer_load => k_is)
    (case k_answer_load => k_is)
    (case a_counted_text => k_is)
    (case l_counted_text => k_is)
    (case c_counted_text => k_is)
    (case k_counted_text => k_is)
    (case a_answer_shows => k_is)
    (case l_answer_shows => k_is)
    (case c_answer_shows => k_is)
    (case k_answer_shows => k_is)
    (case a_answer_place => k_is)
    (case l_answer_place => k_is)
    (case c_answer_place => k_is)
    (case k_answer_place => k_is)
    (case a_answer_seen => k_is)
    (case l_answer_seen => k_is)
    (case c_answer_seen => k_is)
    (case k_answer_seen => k_is)
    (case a_answer_back => k_is)
    (case l_answer_back => k_is)
    (case c_answer_back => k_is)
    (case k_answer_back => k_is)
    (case a_answer_keys => k_is)
    (case l_answer_keys => k_is)
    (case c_answer_keys => k_is)
    (case k_answer_keys => k_is)
    (case a_answer_play => k_is)
    (case l_answer_play => k_is)
    (case c_answer_play => k_is)
    (case k_answer_play => k_is)
    (case a_answer_counts => k_is)
    (case l_answer_counts => k_is)
    (case c_answer_counts => k_is)
    (case k_answer_counts => k_is)
    (case a_answer_differ => k_is)
    (case l_answer_differ => k_is)
    (case c_answer_differ => k_is)
    (case k_answer_differ => k_is)
    (case a_answer_call => k_is)
    (case l_answer_call => k_is)
    (case c_answer_call => k_is)
    (case k_answer_call => k_is)
    (case a_given_begin => k_is)
    (case l_given_begin => k_is)
    (case c_given_begin => k_is)
    (case k_given_begin => k_is)
    (case a_given_end => k_is)
    (case l_given_end => k_is)
    (case c_given_end => k_is)
    (case k_given_end => k_is)
    (case a_answers => k_is)
    (case l_answers => k_is)
    (case c_answers => k_is)
    (case k_answers => k_is)
    (case e_NOTHING => k_is)
    (case e_EARTH => k_is)
    (case e_WALL => k_is)
    (case e_LYING_STONE => k_is)
    (case e_FALLING_STONE => k_is)
    (case e_LYING_GEM => k_is)
    (case e_FALLING_GEM => k_is)
    (case e_PLAYER => k_is)
    (case e_MONSTER_RIGHT => k_is)
    (case e_MONSTER_UP => k_is)
    (case e_WAY_OUT => k_is)
    (case e_BYTES => k_is)
    (case lo_BYTES => k_is)
    (case oc_BYTES => exact rfl)
    (case od_BYTES => exact rfl)
    (case oz_BYTES => exact by decide)
    (case ov_BYTES => exact .cons ⟨_, rfl⟩ (.cons ⟨_, rfl⟩ (.cons ⟨_, rfl⟩ (.cons ⟨_, rfl⟩ (.cons ⟨_, rfl⟩ (.cons ⟨_, rfl⟩ (.cons ⟨_, rfl⟩ (.cons ⟨_, rfl⟩ (.cons ⟨_, rfl⟩ (.cons ⟨_, rfl⟩ (.cons ⟨_, rfl⟩ (.cons ⟨_, rfl⟩ (.cons ⟨_, rfl⟩ (.nil))))))))))))))
    (case e_ROW_END => k_is)
    (case e_MOST_IN_A_ROW => k_is)
    (case e_MOST_ROWS => k_is)
    (case e_STRANGE_BYTE => k_is)
    (case e_UNEVEN_ROWS => k_is)
    (case e_WRONG_SIZE => k_is)
    (case e_NOT_ONE_PLAYER => k_is)
    (case e_GOES_ON => k_is)
    (case e_WON => k_is)
    (case e_LOST => k_is)
    (case e_RIGHT => k_is)
    (case e_DOWN => k_is)
    (case e_LEFT => k_is)
    (case e_POINTS_FOR_GEM => k_is)
    (case e_POINTS_FOR_MONSTER => k_is)
    (case e_POINTS_FOR_WAY_OUT => k_is)
    (case e_FIRST_TEXT => k_is)
    (case lo_FIRST_TEXT => k_is)
    (case oc_FIRST_TEXT => exact rfl)
    (case od_FIRST_TEXT => exact rfl)
    (case oz_FIRST_TEXT => exact by decide)
    (case ov_FIRST_TEXT => exact .cons ⟨_, rfl⟩ (.cons ⟨_, rfl⟩ (.cons ⟨_, rfl⟩ (.cons ⟨_, rfl⟩ (.cons ⟨_, rfl⟩ (.cons ⟨_, rfl⟩ (.cons ⟨_, rfl⟩ (.cons ⟨_, rfl⟩ (.cons ⟨_, rfl⟩ (.cons ⟨_, rfl⟩ (.cons ⟨_, rfl⟩ (.cons ⟨_, rfl⟩ (.nil)))))))))))))
    (case e_FIRST_TICK_PARTS => k_is)
    (case e_MOST_BYTES => k_is)
    (case e_MOST_BYTE => k_is)
    (case e_MOST_KEY => k_is)
    (case e_MOST_FRAME_PARTS => k_is)
    (case e_MOST_TICK_PARTS => k_is)
    (case e_MOST_TICKS => k_is)
    (case e_MOST_PRESSED => k_is)
    (case e_LAST_WHERE => k_is)
    (case e_BEYOND_BOUNDS => k_is)
    (case e_NOT_THERE => k_is)
    (case e_TOO_MANY_TICKS => k_is)
    (case e_ALIKE => k_is)
    (case e_FAULT => k_is)
    (case e_CALLS => k_is)
    (case lo_CALLS => k_is)
    (case oc_CALLS => exact rfl)
    (case od_CALLS => exact rfl)
    (case oz_CALLS => exact by decide)
    (case ov_CALLS => exact .cons rfl (.cons rfl (.cons rfl (.cons rfl (.cons rfl (.cons rfl (.cons rfl (.cons rfl (.cons rfl (.cons rfl (.cons rfl (.cons rfl (.cons rfl (.cons rfl (.nil)))))))))))))))
    (case e_ROW_CALLS => k_is)
    (case lo_ROW_CALLS => k_is)
    (case oc_ROW_CALLS => exact rfl)
    (case od_ROW_CALLS => exact rfl)
    (case oz_ROW_CALLS => exact by decide)
    (case ov_ROW_CALLS => exact .cons ⟨_, rfl⟩ (.cons ⟨_, rfl⟩ (.nil)))
    (case e_GIVEN_COUNTS => k_is)
    (case lo_GIVEN_COUNTS => k_is)
    (case ov_GIVEN_COUNTS => exact .cons ⟨_, rfl⟩ rfl ⟨_, rfl⟩ (.cons ⟨_, rfl⟩ rfl ⟨_, rfl⟩ (.cons ⟨_, rfl⟩ rfl ⟨_, rfl⟩ (.cons ⟨_, rfl⟩ rfl ⟨_, rfl⟩ (.cons ⟨_, rfl⟩ rfl ⟨_, rfl⟩ (.cons ⟨_, rfl⟩ rfl ⟨_, rfl⟩ (.cons ⟨_, rfl⟩ rfl ⟨_, rfl⟩ (.cons ⟨_, rfl⟩ rfl ⟨_, rfl⟩ (.cons ⟨_, rfl⟩ rfl ⟨_, rfl⟩ (.cons ⟨_, rfl⟩ rfl ⟨_, rfl⟩ (.cons ⟨_, rfl⟩ rfl ⟨_, rfl⟩ (.cons ⟨_, rfl⟩ rfl ⟨_, rfl⟩ (.nil)))))))))))))
    (case z_any => k_is)
    (case z_enumerate => k_is)
    (case z_len => k_is)
    (case z_list => k_is)
    (case z_min => k_is)
    (case z_range => k_is)
    (case a_Cave => k_is)
    (case mk_Cave => k_is)
    (case ai_Cave => k_is)
    (case i_Cave => k_is)
    (case kc_Cave => k_is)
    (case l_Cave => k_is)
    (case c_Cave => k_is)
    (case pg_Cave => k_is)
    (case hd_Cave => k_is)
    (case po_Cave => k_is)
    (case sa_Cave => k_is)
    (case na_Cave_wide => k_is)
    (case na_Cave_high => k_is)
    (case na_Cave_places => k_is)
    (case a_Standing => k_is)
    (case mk_Standing => k_is)
    (case ai_Standing => k_is)
    (case i_Standing => k_is)
    (case kc_Standing => k_is)
    (case l_Standing => k_is)
    (case c_Standing => k_is)
    (case pg_Standing => k_is)
    (case hd_Standing => k_is)
    (case po_Standing => k_is)
    (case sa_Standing => k_is)
    (case na_Standing_cave => k_is)
    (case na_Standing_outcome => k_is)
    (case na_Standing_points => k_is)
    (case a_Tick => k_is)
    (case mk_Tick => k_is)
    (case ai_Tick => k_is)
    (case i_Tick => k_is)
    (case kc_Tick => k_is)
    (case l_Tick => k_is)
    (case c_Tick => k_is)
    (case pg_Tick => k_is)
    (case hd_Tick => k_is)
    (case po_Tick => k_is)
    (case sa_Tick => k_is)
    (case na_Tick_standing => k_is)
    (case na_Tick_places => k_is)
    (case na_Tick_steps_to => k_is)
    (case na_Tick_key => k_is)
    (case na_Tick_had_turn => k_is)
    (case a_Game => k_is)
    (case mk_Game => k_is)
    (case ai_Game => k_is)
    (case i_Game => k_is)
    (case kc_Game => k_is)
    (case l_Game => k_is)
    (case c_Game => k_is)
    (case pg_Game => k_is)
    (case hd_Game => k_is)
    (case po_Game => k_is)
    (case sa_Game => k_is)
    (case na_Game_stood => k_is)
    (case na_Game_pressed => k_is)
    (case na_Game_left_over => k_is)
    (case na_Game_tick_parts => k_is)
    (case na_Game_held => k_is)
    (case a_Session => k_is)
    (case mk_Session => k_is)
    (case ai_Session => k_is)
    (case i_Session => k_is)
    (case kc_Session => k_is)
    (case l_Session => k_is)
    (case c_Session => k_is)
    (case pg_Session => k_is)
    (case hd_Session => k_is)
    (case po_Session => k_is)
    (case sa_Session => k_is)
    (case na_Session_game => k_is)
    (case na_Session_kept => k_is)
  case S =>
    intro K H xs a hO hwi hask hx
    cases hx with
    | cons h1 h2 =>
      cases h2
      cases h1 with
      | lst hs ha =>
        have e := L2.ints_dw a.1 _ ha
        subst e
        obtain ⟨cs, hok, h40, ens, eans⟩ := Gm.asked_reads (ns := a.1) hask
        refine ⟨_, cs, rfl, ?_, fun o ho => ⟨hok o ho, (hok o ho).le⟩, h40, fun H' p hp => ?_⟩
        · have : a.1.map L2.V.int = (Gm.flats cs).map U.iv := by
            rw [ens]
            unfold Ge13.ints
            rw [List.map_map]
            rfl
          rw [← this]
          exact hs
        · show L2.Dw K H' (.ref p) ((Codec.list 0 1048576 (.int (_root_.Int.negSucc 9223372036854775807) (_root_.Int.ofNat 18446744073709551615))).enc (PyGe13.answers a.1))
          rw [eans]
          exact .lst (L2.SqL.of hp) (L2.dw_ints _)

