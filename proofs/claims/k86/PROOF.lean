import PyProof.Rows.All
import Wide.All
import OpenK.AllK
import Wide.FinOn
import HandS.ForMost
import HandS.Evl
import HandS.Gcd
import HandS.Wide
import HandS.WideBits
import HandS.IsInst
import HandS.TupAny
import HandS.TupMul
import HandS.Style
import HandS.Lambda
import PyProof.ReprRoads
import PyProof.ReprLen
import KE.GoesEnum
import HandS.Walk
import KE.GoesEnumKw
import HandS.SortInts
import HandS.RepeatKit
import PyProof.TupleOfSeq
import PyProof.Rows.SortShell
import HandS.SetFor
import HandS.Strs
import HandS.Conv
import HandS.Deep
import KE.SortData
import HandS.Comp
import HandS.SetBool
import HandS.Set
import Flt.RightSqrt
import HandS.Dict
import HandS.TupSets
import KE.KDictPairs
import HandS.Iter
import PyProof.Rows.RuleB_pow
import HandS.Exc
import HandS.ExcOwn
import HandS.ExcInit
import HandS.ExcIs
import HandS.WordsExc
import KE.KExcIs
import KE.SortKeyHeap
import HandS.Nested
import HandS.SortKw
import HandS.EndTab
import KE.KMathGC
import HandS.More
import PySem.Challenge.RW_framecams_k86_whole_folds_and_axes
set_option Elab.async false
set_option linter.all false
set_option maxRecDepth 100000
set_option maxHeartbeats 4000000
/-! a layer of mine: what is known of values is plain data; a well (one list of three ints) may change -/
namespace Vd
open PySem PySem.Spec PyProof.Rows L2
abbrev Fr := PySem.W.Frag
abbrev WA := Option Addr
/-- the one lambda that the defs of mine make -/
def lamQ : Str := Str.ofString "in_order.<locals>.<lambda>"
/-- a table that tells code objects of that lambda alone -/
def TbQ (H : Hp) (P : Addr) : Prop := LamX.TabS H P lamQ
/-- the table of the code objects that the maker at f makes -/
def tabAt (K : Fr) (f : Addr) : Option Addr := match K.lookup f with
  | some ⟨_, _, .func fd, _⟩ => match fd.code with
    | Value.ref c => match K.lookup c with
      | some ⟨_, _, .fields vs, _⟩ => match vs[11]? with
        | some (Value.ref P) => some P
        | _ => none
      | _ => none
    | _ => none
  | _ => none
def isMk (o : Obj) : Bool := match o.data with
  | .func fd => fd.name == (Str.ofString "in_order")
  | _ => false
/-- the one table that may grow -/
def tabOf (K : Fr) : Option Addr := match K.find? fun p => isMk p.2 with
  | some (f, _) => tabAt K f
  | none => none
/-- it is a good one -/
def Tq (K : Fr) (H : Hp) : Prop := ∀ P, tabOf K = some P → TbQ H P
def NoT (o : HO) : Prop := ∀ ps, o ≠ .tbl ps
/-- all that is tracked is kept, but for the well; tables may grow, good ones stay good -/
structure Kp (w : WA) (H H' : Hp) : Prop where
  all : ∀ a o, w ≠ some a → H a = some o → H' a = some o ∨ ∃ ps qs, o = .tbl ps ∧ H' a = some (.tbl qs)
  tab : ∀ P, TbQ H P → TbQ H' P
theorem Kp.at_ {w : WA} {H H' : Hp} (k : Kp w H H') (a : Addr) (o : HO) (n : w ≠ some a) (h : H a = some o) (t : NoT o := by intro _ e; cases e) : H' a = some o := by
  rcases k.all a o n h with z | ⟨ps, qs, e, _⟩
  · exact z
  · exact absurd e (t ps)
theorem Kp.nn {w : WA} {H H' : Hp} (k : Kp w H H') {a : Addr} {o : HO} (n : w ≠ some a) (h : H a = some o) : H' a ≠ none := by
  rcases k.all a o n h with z | ⟨ps, qs, _, z⟩ <;> rw [z] <;> simp
instance {w : WA} {H H' : Hp} : CoeFun (Kp w H H') (fun _ => ∀ (a : Addr) (o : HO), w ≠ some a → H a = some o → (t : NoT o := by intro _ e; cases e) → H' a = some o) := ⟨@Kp.at_ w H H'⟩
def WOk (H : Hp) (a : Addr) : Prop := ∃ x y z : Int, H a = some (.lst [.int x, .int y, .int z])
def Wok (w : WA) (H : Hp) : Prop := ∀ a, w = some a → WOk H a
def Go (w : WA) (H H' : Hp) : Prop := Kp w H H' ∧ Wok w H'
theorem TbQ.off {H H' : Hp} {p P : Addr} (n : ∀ o, H p = some o → (∀ ps, o ≠ .tbl ps) ∧ ∀ q, o ≠ LamX.CodeO p q) (e : ∀ b, b ≠ p → ∀ o, H b = some o → H' b = some o) (t : TbQ H P) : TbQ H' P := by
  obtain ⟨ps, h1, h2, h3⟩ := t
  refine ⟨ps, e P (fun z => (n _ (by rw [← z]; exact h1)).1 ps rfl) _ h1, h2, fun pos cv hc => ?_⟩
  obtain ⟨c, e1, e2⟩ := h3 pos cv hc
  exact ⟨c, e1, e c (fun z => by subst z; exact (n _ e2).2 _ rfl) _ e2⟩
theorem lst_no {H : Hp} {p : Addr} {xs : List V} (h : H p = some (.lst xs)) : ∀ o, H p = some o → (∀ ps, o ≠ .tbl ps) ∧ ∀ q, o ≠ LamX.CodeO p q := fun o e => by
  rw [h] at e
  cases e
  exact ⟨fun _ z => (by cases z), fun q z => (by unfold LamX.CodeO at z; cases z)⟩
theorem TbQ.wr {H : Hp} {p P : Addr} {o : HO} {ys : List V} (hp : H p = some (.lst ys)) (t : TbQ H P) : TbQ (upd H p o) P :=
  t.off (lst_no hp) fun b n u e => by rw [upd_ne n]; exact e
theorem Kp.refl (w : WA) (H : Hp) : Kp w H H := ⟨fun _ _ _ h => .inl h, fun _ h => h⟩
theorem Kp.trans {w : WA} {H H1 H2 : Hp} (a : Kp w H H1) (b : Kp w H1 H2) : Kp w H H2 := ⟨fun x o n h => by
  rcases a.all x o n h with z | ⟨ps, qs, z2, z3⟩
  · exact b.all x o n z
  · rcases b.all x _ n z3 with y | ⟨_, rs, _, y⟩
    · exact .inr ⟨ps, qs, z2, y⟩
    · exact .inr ⟨ps, rs, z2, y⟩, fun P h => b.tab P (a.tab P h)⟩
theorem Kp.ex {w : WA} {H H' : Hp} (e : ∀ a o, H a = some o → H' a = some o) : Kp w H H' := ⟨fun a o _ h => .inl (e a o h), fun _ h => h.ext e⟩
theorem Kp.new {w : WA} {H : Hp} {p : Addr} {o : HO} (h : H p = none) : Kp w H (upd H p o) := .ex fun a u e => by
  rw [upd_ne (ne_of_none e h)]
  exact e
/-- what the beginning did not know is changed -/
theorem Kp.chg {w : WA} {B H : Hp} {p : Addr} {o : HO} (k : Kp w B H) (h0 : B p = none) (n : ∀ o, H p = some o → (∀ ps, o ≠ .tbl ps) ∧ ∀ q, o ≠ LamX.CodeO p q) : Kp w B (upd H p o) := ⟨fun a u m e => by
  rw [upd_ne (ne_of_none e h0)]
  exact k.all a u m e, fun P t => (k.tab P t).off n fun b m u e => by rw [upd_ne m]; exact e⟩
/-- the beginning is told of a list -/
theorem Kp.base {w : WA} {B H : Hp} {p : Addr} {xs : List V} (k : Kp w B H) (h : H p = some (.lst xs)) : Kp w (upd B p (.lst xs)) H := ⟨fun a o n e => by
  by_cases q : a = p
  · subst q
    rw [upd_same] at e
    cases e
    exact .inl h
  · rw [upd_ne q] at e
    exact k.all a o n e, fun P t => k.tab P (t.off (lst_no (p := p) upd_same) fun b m u e => by rw [upd_ne m] at e; exact e)⟩
/-- the well is changed -/
theorem Kp.well {a : Addr} {H : Hp} {xs : List V} {o : HO} (h : H a = some (.lst xs)) : Kp (some a) H (upd H a o) := ⟨fun b u n e => by
  rw [upd_ne (fun z => n (by rw [z]))]
  exact .inl e, fun P t => t.wr h⟩
theorem Go.refl {w : WA} {H : Hp} (h : Wok w H) : Go w H H := ⟨Kp.refl _ _, h⟩
theorem Go.trans {w : WA} {H H1 H2 : Hp} (a : Go w H H1) (b : Go w H1 H2) : Go w H H2 := ⟨a.1.trans b.1, b.2⟩
theorem Wok.new {w : WA} {H : Hp} {p : Addr} {o : HO} (k : Wok w H) (h : H p = none) : Wok w (upd H p o) := fun a e => by
  obtain ⟨x, y, z, q⟩ := k a e
  refine ⟨x, y, z, ?_⟩
  rw [upd_ne (ne_of_none q h)]
  exact q
theorem Go.new {w : WA} {H : Hp} {p : Addr} {o : HO} (k : Wok w H) (h : H p = none) : Go w H (upd H p o) := ⟨Kp.new h, k.new h⟩
theorem Wok.none {H : Hp} : Wok none H := fun _ e => nomatch e
/-- without a well -/
abbrev Kx (H H' : Hp) : Prop := Kp none H H'
theorem Go.ex {w : WA} {H H' : Hp} (k : Wok w H) (e : Kx H H') : Go w H H' := ⟨⟨fun a o _ h => e.all a o (fun z => nomatch z) h, e.tab⟩, fun a q => by
  obtain ⟨x, y, z, h⟩ := k a q
  exact ⟨x, y, z, e.at_ a _ (fun z => nomatch z) h⟩⟩
theorem Go.toEx {H H' : Hp} (g : Go none H H') : Kx H H' := g.1
/-- a well of one's own is forgotten -/
theorem Kp.drop {p : Addr} {H H1 H2 : Hp} (x : Kx H H1) (np : H p = none) (g : Kp (some p) H1 H2) : Kx H H2 := ⟨fun a o _ h => by
  have ne : (some p : WA) ≠ some a := fun z => by
    cases z
    rw [np] at h
    cases h
  rcases x.all a o (fun z => nomatch z) h with z | ⟨ps, qs, z2, z3⟩
  · exact g.all a o ne z
  · rcases g.all a _ ne z3 with y | ⟨_, rs, _, y⟩
    · exact .inr ⟨ps, qs, z2, y⟩
    · exact .inr ⟨ps, rs, z2, y⟩, fun P t => g.tab P (x.tab P t)⟩
/-! ### data: none, bools, ints, texts, tuples of such -/
def keyD : Key → PyData
  | .inl n => .int n
  | .inr x => .str x
/-- a dict whose values are ints -/
inductive DicD : List (Key × V) → List (PyData × PyData) → Prop
  | nil : DicD [] []
  | cons {k : Key} {i : Int} {r : List (Key × V)} {s : List (PyData × PyData)} : DicD r s → DicD ((k, .int i) :: r) ((keyD k, .int i) :: s)
/-- a mark ahead of a list's items that no data has: a locked list of which it is not told where it stands -/
def bigI : Int := 2 ^ 2000
def mk : PyData := .dict [(.none, .int bigI)]
def lz (ds : List PyData) : PyData := .list (mk :: ds)
mutual
inductive Tp (K : Fr) (H : Hp) : V → PyData → Prop
  | non : Tp K H .non .none
  | bl (b : Bool) : Tp K H (.bl b) (.bool b)
  | int (i : Int) : Tp K H (.int i) (.int i)
  | str (x : Str) : Tp K H (.str x) (.str x)
  | tup {a : Addr} {xs : List V} {ds : List PyData} : SqT K H a xs → TpAll K H xs ds → Tp K H (.ref a) (.tuple ds)
  | lst {a : Addr} {o : Obj} {xs : List V} {ds : List PyData} : H a = some (.frz o (.lst xs)) → (a == sysModules) = false → TpAll K H xs ds → Tp K H (.ref a) (.list ds)
  | dic {a : Addr} {o : Obj} {kvs : List (Key × V)} {es : List (PyData × PyData)} : H a = some (.frz o (.dK kvs)) → DicD kvs es → Tp K H (.ref a) (.dict es)
  | lz {a : Addr} {o : Obj} {xs : List V} {ds : List PyData} : H a = some (.frz o (.lst xs)) → TpAll K H xs ds → Tp K H (.ref a) (.list (mk :: ds))
inductive TpAll (K : Fr) (H : Hp) : List V → List PyData → Prop
  | nil : TpAll K H [] []
  | cons {v : V} {vs : List V} {d : PyData} {ds : List PyData} : Tp K H v d → TpAll K H vs ds → TpAll K H (v :: vs) (d :: ds)
end
section
variable {K : Fr} {H H' : Hp} {w : WA}
theorem sqT_go {a : Addr} {xs : List V} (k : Wok w H) (g : Go w H H') (h : SqT K H a xs) : SqT K H' a xs := by
  rcases h with (h | ⟨o, h⟩) | h
  · refine .inl (.inl (g.1 a _ (fun z => ?_) h))
    obtain ⟨x, y, t, q⟩ := k a z
    rw [q] at h; cases h
  · refine .inl (.inr ⟨o, g.1 a _ (fun z => ?_) h⟩)
    obtain ⟨x, y, t, q⟩ := k a z
    rw [q] at h; cases h
  · exact .inr h
theorem frz_go {a : Addr} {o : Obj} {u : HO} (k : Wok w H) (g : Go w H H') (h : H a = some (.frz o u)) : H' a = some (.frz o u) := g.1 a _ (fun z => by
  obtain ⟨x, y, t, q⟩ := k a z
  rw [q] at h; cases h) h
mutual
theorem Tp.go (k : Wok w H) (g : Go w H H') : ∀ (d : PyData) (v : V), Tp K H v d → Tp K H' v d
  | .none, _, h => by cases h; exact .non
  | .bool b, _, h => by cases h; exact .bl b
  | .int i, _, h => by cases h; exact .int i
  | .str x, _, h => by cases h; exact .str x
  | .list [], _, h => by
    cases h with
    | lst hs hn ha => exact .lst (frz_go k g hs) hn (TpAll.go k g [] _ ha)
  | .list (d0 :: ds), _, h => by
    cases h with
    | lst hs hn ha => exact .lst (frz_go k g hs) hn (TpAll.go k g (d0 :: ds) _ ha)
    | lz hs ha => exact .lz (frz_go k g hs) (TpAll.go k g ds _ ha)
  | .dict _, _, h => by
    cases h with
    | dic hs hd => exact .dic (frz_go k g hs) hd
  | .tuple ds, _, h => by
    cases h with
    | tup hs ha => exact .tup (sqT_go k g hs) (TpAll.go k g ds _ ha)
theorem TpAll.go (k : Wok w H) (g : Go w H H') : ∀ (ds : List PyData) (vs : List V), TpAll K H vs ds → TpAll K H' vs ds
  | [], _, h => by cases h; exact .nil
  | d :: ds, _, h => by
    cases h with
    | cons h1 h2 => exact .cons (Tp.go k g d _ h1) (TpAll.go k g ds _ h2)
end
/-- a list of one's own is changed: tuples stand -/
theorem sqT_wr {p a : Addr} {xs : List V} {ys : List V} {o : HO} (hp : H p = some (.lst ys)) (h : SqT K H a xs) : SqT K (upd H p o) a xs := by
  rcases h with (h | ⟨u, h⟩) | h
  · exact .inl (.inl (by rw [upd_ne (fun z => by rw [z, hp] at h; cases h)]; exact h))
  · exact .inl (.inr ⟨u, by rw [upd_ne (fun z => by rw [z, hp] at h; cases h)]; exact h⟩)
  · exact .inr h
theorem frz_wr {p a : Addr} {ys : List V} {o : HO} {ob : Obj} {u : HO} (hp : H p = some (.lst ys)) (h : H a = some (.frz ob u)) : upd H p o a = some (.frz ob u) := by
  rw [upd_ne (fun z => by rw [z, hp] at h; cases h)]
  exact h
mutual
theorem Tp.wr {p : Addr} {ys : List V} {o : HO} (hp : H p = some (.lst ys)) : ∀ (d : PyData) (v : V), Tp K H v d → Tp K (upd H p o) v d
  | .none, _, h => by cases h; exact .non
  | .bool b, _, h => by cases h; exact .bl b
  | .int i, _, h => by cases h; exact .int i
  | .str x, _, h => by cases h; exact .str x
  | .list [], _, h => by
    cases h with
    | lst hs hn ha => exact .lst (frz_wr hp hs) hn (TpAll.wr hp [] _ ha)
  | .list (d0 :: ds), _, h => by
    cases h with
    | lst hs hn ha => exact .lst (frz_wr hp hs) hn (TpAll.wr hp (d0 :: ds) _ ha)
    | lz hs ha => exact .lz (frz_wr hp hs) (TpAll.wr hp ds _ ha)
  | .dict _, _, h => by
    cases h with
    | dic hs hd => exact .dic (frz_wr hp hs) hd
  | .tuple ds, _, h => by
    cases h with
    | tup hs ha => exact .tup (sqT_wr hp hs) (TpAll.wr hp ds _ ha)
theorem TpAll.wr {p : Addr} {ys : List V} {o : HO} (hp : H p = some (.lst ys)) : ∀ (ds : List PyData) (vs : List V), TpAll K H vs ds → TpAll K (upd H p o) vs ds
  | [], _, h => by cases h; exact .nil
  | d :: ds, _, h => by
    cases h with
    | cons h1 h2 => exact .cons (Tp.wr hp d _ h1) (TpAll.wr hp ds _ h2)
end
mutual
theorem nd_lay : ∀ d : PyData, d.canLay0 = true → d.hasDict = false
  | .none, _ => rfl
  | .bool _, _ => rfl
  | .int _, _ => rfl
  | .str _, _ => rfl
  | .list ds, h => by rw [PyData.hasDict]; exact nd_layAll ds (by rw [PyData.canLay0] at h; exact h)
  | .tuple ds, h => by rw [PyData.hasDict]; exact nd_layAll ds (by rw [PyData.canLay0] at h; exact h)
  | .dict _, h => by simp [PyData.canLay0] at h
theorem nd_layAll : ∀ ds : List PyData, PyData.canLayAll0 ds = true → PyData.hasDictAll ds = false
  | [], _ => rfl
  | d :: ds, h => by
    rw [PyData.canLayAll0, Bool.and_eq_true] at h
    rw [PyData.hasDictAll, nd_lay d h.1, nd_layAll ds h.2]
    rfl
end
theorem nd_sh {d : PyData} (h : SeqAt.shaped d = true) : d.hasDict = false := nd_lay d (by
  unfold SeqAt.shaped at h
  exact (Bool.and_eq_true_iff.mp h).1)
theorem nd_L {ds : List PyData} (h : (PyData.list ds).hasDict = false) : PyData.hasDictAll ds = false := by rw [PyData.hasDict] at h; exact h
mutual
theorem Tp.dp' : ∀ (d : PyData) (v : V), d.hasDict = false → Tp K H v d → Dp K H v d
  | .none, _, _, h => by cases h; exact .non
  | .bool b, _, _, h => by cases h; exact .bl b
  | .int i, _, _, h => by cases h; exact .int i
  | .str x, _, _, h => by cases h; exact .str x
  | .list ds, _, n, h => by
    cases h with
    | lst hs hn ha => exact .lst (.inl (.inr ⟨_, hs⟩)) (TpAll.dp' ds _ (by rw [PyData.hasDict] at n; exact n) ha)
    | lz hs ha => rw [PyData.hasDict, PyData.hasDictAll, mk, PyData.hasDict, Bool.true_or] at n; cases n
  | .dict _, _, n, h => by simp [PyData.hasDict] at n
  | .tuple ds, _, n, h => by
    cases h with
    | tup hs ha => exact .tup hs (TpAll.dp' ds _ (by rw [PyData.hasDict] at n; exact n) ha)
theorem TpAll.dp' : ∀ (ds : List PyData) (vs : List V), PyData.hasDictAll ds = false → TpAll K H vs ds → DpAll K H vs ds
  | [], _, _, h => by cases h; exact .nil
  | d :: ds, _, n, h => by
    rw [PyData.hasDictAll, Bool.or_eq_false_iff] at n
    cases h with
    | cons h1 h2 => exact .cons (Tp.dp' d _ n.1 h1) (TpAll.dp' ds _ n.2 h2)
end
theorem Tp.dp {d : PyData} {v : V} (h : Tp K H v d) (n : d.hasDict = false) : Dp K H v d := Tp.dp' d v n h
theorem TpAll.dp {ds : List PyData} {vs : List V} (h : TpAll K H vs ds) (n : PyData.hasDictAll ds = false) : DpAll K H vs ds := TpAll.dp' ds vs n h
theorem Tp.inv_int {v : V} {i : Int} (h : Tp K H v (.int i)) : v = .int i := by cases h; rfl
theorem Tp.inv_bl {v : V} {b : Bool} (h : Tp K H v (.bool b)) : v = .bl b := by cases h; rfl
theorem Tp.inv_non {v : V} (h : Tp K H v .none) : v = .non := by cases h; rfl
theorem Tp.inv_str {v : V} {x : Str} (h : Tp K H v (.str x)) : v = .str x := by cases h; rfl
theorem Tp.inv_tup {v : V} {ds : List PyData} (h : Tp K H v (.tuple ds)) : ∃ a xs, v = .ref a ∧ SqT K H a xs ∧ TpAll K H xs ds := by
  cases h with
  | tup hs ha => exact ⟨_, _, rfl, hs, ha⟩
theorem TpAll.length {xs : List V} : ∀ {ds : List PyData}, TpAll K H xs ds → xs.length = ds.length := fun {ds} h => by
  induction ds generalizing xs with
  | nil => cases h; rfl
  | cons d ds ih =>
    cases h with
    | cons h1 h2 => rw [List.length_cons, List.length_cons, ih h2]
theorem TpAll.get {xs : List V} {ds : List PyData} (h : TpAll K H xs ds) {i : Nat} {d : PyData} (e : ds[i]? = some d) : ∃ v, xs[i]? = some v ∧ Tp K H v d := by
  induction ds generalizing xs i with
  | nil => simp at e
  | cons c ds ih =>
    cases h with
    | cons h1 h2 =>
      cases i with
      | zero =>
        have e' : c = d := Option.some.inj e
        subst e'
        exact ⟨_, rfl, h1⟩
      | succ i => exact ih h2 (by simpa using e)
theorem TpAll.getv {xs : List V} {ds : List PyData} (h : TpAll K H xs ds) {i : Nat} {v : V} (e : xs[i]? = some v) : ∃ d, ds[i]? = some d ∧ Tp K H v d := by
  induction ds generalizing xs i with
  | nil => cases h; simp at e
  | cons c ds ih =>
    cases h with
    | cons h1 h2 =>
      cases i with
      | zero =>
        have e' := Option.some.inj e
        subst e'
        exact ⟨_, rfl, h1⟩
      | succ i => exact ih h2 (by simpa using e)
theorem TpAll.append {xs ys : List V} {ds es : List PyData} (h : TpAll K H xs ds) (k : TpAll K H ys es) : TpAll K H (xs ++ ys) (ds ++ es) := by
  induction ds generalizing xs with
  | nil => cases h; exact k
  | cons c ds ih =>
    cases h with
    | cons h1 h2 => exact .cons h1 (ih h2)
theorem TpAll.take {xs : List V} {ds : List PyData} (h : TpAll K H xs ds) (n : Nat) : TpAll K H (xs.take n) (ds.take n) := by
  induction n generalizing xs ds with
  | zero => exact .nil
  | succ n ih =>
    cases h with
    | nil => exact .nil
    | cons h1 h2 => exact .cons h1 (ih h2)
theorem TpAll.drop {xs : List V} {ds : List PyData} (h : TpAll K H xs ds) (n : Nat) : TpAll K H (xs.drop n) (ds.drop n) := by
  induction n generalizing xs ds with
  | zero => exact h
  | succ n ih =>
    cases h with
    | nil => exact .nil
    | cons h1 h2 => exact ih h2
end
/-! ### slots -/
inductive Sl where
  | d (x : PyData)
  | obj (a : Addr)
  | own (ds : List PyData)
  | ro (ds : List PyData)
  | ex (φ : Hp → Hp → V → Prop)
abbrev Rho := List (Option Sl)
/-- the heap at a def's start, and values that are held on to -/
structure Bs where
  h : Hp
  pn : List (Addr × List V × List PyData)
  ln : List (Addr × List V × List PyData) := []
  tn : List (Addr × List V × List PyData) := []
  zn : List (Addr × List V × List PyData) := []
/-- what is held of a thing of its own kind: of the heap at the start, the heap now, the thing -/
structure ExOk (w : WA) (φ : Hp → Hp → V → Prop) : Prop where
  go : ∀ {B H H' v}, Wok w H → Go w H H' → φ B H v → φ B H' v
  wr : ∀ {B H p xs ys v}, H p = some (.lst xs) → φ B H v → φ B (upd H p (.lst ys)) v
  frz : ∀ {B H p xs v}, H p = some (.lst xs) → φ B H v → φ (upd B p (.lst xs)) H v
  thw : ∀ {B H p xs v}, φ (upd B p (.lst xs)) H v → φ B H v
def SlOk (K : Fr) (w : WA) (H0 : Bs) (H : Hp) : Option V → Option Sl → Prop
  | _, none => True
  | o, some (.d x) => ∃ v, o = some v ∧ Tp K H v x
  | o, some (.obj a) => o = some (.ref a)
  | o, some (.ro ds) => ∃ p xs, o = some (.ref p) ∧ (p, xs, ds) ∈ H0.ln
  | o, some (.ex φ) => ∃ v, o = some v ∧ φ H0.h H v ∧ ExOk w φ
  | o, some (.own ds) => ∃ p xs, o = some (.ref p) ∧ H0.h p = none ∧ H p = some (.lst xs) ∧ TpAll K H xs ds ∧ w ≠ some p
structure Env (K : Fr) (w : WA) (H0 : Bs) (H : Hp) (σ : L2.St) (ρ : Rho) : Prop where
  kp : Kp w H0.h H
  pin : ∀ p : Addr × List V × List PyData, p ∈ H0.pn → SqT K H p.1 p.2.1 ∧ TpAll K H p.2.1 p.2.2
  lin : ∀ p : Addr × List V × List PyData, p ∈ H0.ln ++ H0.tn → SqL K H0.h p.1 p.2.1 ∧ TpAll K H p.2.1 p.2.2 ∧ w ≠ some p.1
  wok : Wok w H
  len : σ.length = ρ.length
  sl : ∀ (i : Nat) (o : Option V) (s : Option Sl), σ[i]? = some o → ρ[i]? = some s → SlOk K w H0 H o s
  sep : ∀ (i j : Nat) (ds es : List PyData) (o : Option V), ρ[i]? = some (some (.own ds)) → ρ[j]? = some (some (.own es)) → σ[i]? = some o → σ[j]? = some o → i = j
  tq : Tq K H
  zin : ∀ p : Addr × List V × List PyData, p ∈ H0.zn → (∃ o, H p.1 = some (.frz o (.lst p.2.1))) ∧ TpAll K H p.2.1 p.2.2
section
variable {K : Fr} {w : WA} {H0 : Bs} {H H' : Hp} {σ : L2.St} {ρ : Rho}
theorem SlOk.go (k : Wok w H) (g : Go w H H') {o : Option V} {s : Option Sl} (h : SlOk K w H0 H o s) : SlOk K w H0 H' o s := by
  cases s with
  | none => trivial
  | some s =>
    cases s with
    | d x => obtain ⟨v, e, t⟩ := h; exact ⟨v, e, t.go k g⟩
    | obj a => exact h
    | own ds => obtain ⟨p, xs, e, h0, hp, ha, ne⟩ := h; exact ⟨p, xs, e, h0, g.1 p _ ne hp, ha.go k g, ne⟩
    | ro ds => exact h
    | ex φ => obtain ⟨v, e, z, x⟩ := h; exact ⟨v, e, x.go k g z, x⟩
theorem sqL_kp {p : Addr} {xs : List V} (g : Kp w H H') (n : w ≠ some p) (h : SqL K H p xs) : SqL K H' p xs := by
  rcases h with (h | ⟨o, h⟩) | h
  · exact .inl (.inl (g _ _ n h))
  · exact .inl (.inr ⟨o, g _ _ n h⟩)
  · exact .inr h
theorem Env.go (E : Env K w H0 H σ ρ) (g : Go w H H') : Env K w H0 H' σ ρ :=
  ⟨E.kp.trans g.1, fun p hp => ⟨sqT_go E.wok g (E.pin p hp).1, (E.pin p hp).2.go E.wok g⟩, fun p hp => ⟨(E.lin p hp).1, (E.lin p hp).2.1.go E.wok g, (E.lin p hp).2.2⟩, g.2, E.len, fun i o s a b => (E.sl i o s a b).go E.wok g, E.sep, fun P h => g.1.tab P (E.tq P h), fun p hp => ⟨(E.zin p hp).1.imp fun o h => frz_go E.wok g h, (E.zin p hp).2.go E.wok g⟩⟩
theorem Env.gd (E : Env K w H0 H σ ρ) {i : Nat} {x : PyData} (h : ρ[i]? = some (some (.d x))) : ∃ v, σ[i]? = some (some v) ∧ Tp K H v x := by
  have hi : i < σ.length := by rw [E.len]; exact (List.getElem?_eq_some_iff.mp h).1
  obtain ⟨v, e, t⟩ := E.sl i _ _ (List.getElem?_eq_getElem hi) h
  exact ⟨v, by rw [List.getElem?_eq_getElem hi, e], t⟩
theorem Env.go_ (E : Env K w H0 H σ ρ) {i : Nat} {a : Addr} (h : ρ[i]? = some (some (.obj a))) : σ[i]? = some (some (.ref a)) := by
  have hi : i < σ.length := by rw [E.len]; exact (List.getElem?_eq_some_iff.mp h).1
  have e := E.sl i _ _ (List.getElem?_eq_getElem hi) h
  rw [List.getElem?_eq_getElem hi]
  exact congrArg some e
theorem Env.gown (E : Env K w H0 H σ ρ) {i : Nat} {ds : List PyData} (h : ρ[i]? = some (some (.own ds))) : ∃ p xs, σ[i]? = some (some (.ref p)) ∧ H0.h p = none ∧ H p = some (.lst xs) ∧ TpAll K H xs ds ∧ w ≠ some p := by
  have hi : i < σ.length := by rw [E.len]; exact (List.getElem?_eq_some_iff.mp h).1
  obtain ⟨p, xs, e, z⟩ := E.sl i _ _ (List.getElem?_eq_getElem hi) h
  exact ⟨p, xs, by rw [List.getElem?_eq_getElem hi, e], z⟩
theorem Env.gro (E : Env K w H0 H σ ρ) {i : Nat} {ds : List PyData} (h : ρ[i]? = some (some (.ro ds))) : ∃ p xs, σ[i]? = some (some (.ref p)) ∧ SqL K H p xs ∧ TpAll K H xs ds ∧ w ≠ some p ∧ (p, xs, ds) ∈ H0.ln := by
  have hi : i < σ.length := by rw [E.len]; exact (List.getElem?_eq_some_iff.mp h).1
  obtain ⟨p, xs, e, z⟩ := E.sl i _ _ (List.getElem?_eq_getElem hi) h
  obtain ⟨z1, z2, z3⟩ := E.lin _ (List.mem_append_left _ z)
  exact ⟨p, xs, by rw [List.getElem?_eq_getElem hi, e], sqL_kp E.kp z3 z1, z2, z3, z⟩
/-- data is put into a slot -/
theorem Env.setd (E : Env K w H0 H σ ρ) {v : V} {x : PyData} (t : Tp K H v x) (i : Nat) : Env K w H0 H (σ.set i (some v)) (ρ.set i (some (.d x))) := by
  refine ⟨E.kp, E.pin, E.lin, E.wok, by rw [List.length_set, List.length_set, E.len], fun j o s a b => ?_, fun j k ds es o a b c d => ?_, E.tq, E.zin⟩
  · rw [List.getElem?_set] at a b
    by_cases e : i = j
    · rw [if_pos e] at a b
      subst e
      split at a
      · have hb : i < ρ.length := by rw [← E.len]; assumption
        rw [if_pos hb] at b
        cases a; cases b
        exact ⟨v, rfl, t⟩
      · cases a
    · rw [if_neg e] at a b
      exact E.sl j o s a b
  · rw [List.getElem?_set] at a b c d
    by_cases e : i = j
    · rw [if_pos e] at a; split at a <;> cases a
    · by_cases e2 : i = k
      · rw [if_pos e2] at b; split at b <;> cases b
      · rw [if_neg e] at a c
        rw [if_neg e2] at b d
        exact E.sep j k ds es o a b c d
/-- a new list of one's own is put into a slot: fresh at H -/
theorem Env.setown (E : Env K w H0 H σ ρ) (g : Go w H H') {p : Addr} {xs : List V} {ds : List PyData} (hp : H p = none) (h : H' p = some (.lst xs)) (t : TpAll K H' xs ds) (i : Nat) : Env K w H0 H' (σ.set i (some (.ref p))) (ρ.set i (some (.own ds))) := by
  have E' := E.go g
  have hw : w ≠ some p := fun z => by
    obtain ⟨_, _, _, q⟩ := E.wok p z
    rw [hp] at q; cases q
  have h0 : H0.h p = none := by
    cases e : H0.h p with
    | none => rfl
    | some o => exact absurd hp (E.kp.nn hw e)
  have old : ∀ (j : Nat) (es : List PyData), ρ[j]? = some (some (.own es)) → σ[j]? ≠ some (some (.ref p)) := fun j es a c => by
    obtain ⟨q, xs, e, _, h1, _, _⟩ := E.gown a
    rw [e] at c; cases c
    rw [hp] at h1; cases h1
  refine ⟨E'.kp, E'.pin, E'.lin, E'.wok, by rw [List.length_set, List.length_set, E.len], fun j o s a b => ?_, fun j k ds' es o a b c d => ?_, E'.tq, E'.zin⟩
  · rw [List.getElem?_set] at a b
    by_cases e : i = j
    · rw [if_pos e] at a b
      subst e
      split at a
      · have hb : i < ρ.length := by rw [← E.len]; assumption
        rw [if_pos hb] at b
        cases a; cases b
        exact ⟨p, xs, rfl, h0, h, t, hw⟩
      · cases a
    · rw [if_neg e] at a b
      exact E'.sl j o s a b
  · rw [List.getElem?_set] at a b c d
    by_cases e : i = j
    · by_cases e2 : i = k
      · rw [← e, ← e2]
      · rw [if_pos e] at a c
        rw [if_neg e2] at b d
        split at c
        · cases c
          exact absurd d (old k es b)
        · cases c
    · by_cases e2 : i = k
      · rw [if_neg e] at a c
        rw [if_pos e2] at b d
        split at d
        · cases d
          exact absurd c (old j ds' a)
        · cases d
      · rw [if_neg e] at a c
        rw [if_neg e2] at b d
        exact E.sep j k ds' es o a b c d
/-- one's own list at slot i is changed -/
theorem Env.chg (E : Env K w H0 H σ ρ) {i : Nat} {p : Addr} {xs ys : List V} {ds es : List PyData} (hr : ρ[i]? = some (some (.own ds))) (hs : σ[i]? = some (some (.ref p))) (h : H p = some (.lst xs)) (t : TpAll K H ys es) : Env K w H0 (upd H p (.lst ys)) σ (ρ.set i (some (.own es))) := by
  obtain ⟨p', xs', e, h0, h1, _, hw⟩ := E.gown hr
  rw [hs] at e; cases e
  have wk : Wok w (upd H p (.lst ys)) := fun a z => by
    obtain ⟨x, y, t, q⟩ := E.wok a z
    refine ⟨x, y, t, ?_⟩
    rw [upd_ne (fun e => hw (by rw [← e]; exact z))]
    exact q
  refine ⟨E.kp.chg h0 (lst_no h), fun r hr => ⟨sqT_wr h (E.pin r hr).1, (E.pin r hr).2.wr h⟩, fun r hr => ?_, wk, by rw [List.length_set, E.len], fun j o s a b => ?_, fun j k d1 d2 o a b c d => ?_, fun P z => (E.tq P z).wr h, fun q hq => ⟨(E.zin q hq).1.imp fun o e => frz_wr h e, (E.zin q hq).2.wr h⟩⟩
  · obtain ⟨z1, z2, z3⟩ := E.lin r hr
    exact ⟨z1, z2.wr h, z3⟩
  · rw [List.getElem?_set] at b
    by_cases e : i = j
    · rw [if_pos e] at b
      subst e
      split at b
      · cases b
        rw [hs] at a; cases a
        exact ⟨p, ys, rfl, h0, upd_same, t.wr h, hw⟩
      · cases b
    · rw [if_neg e] at b
      have q := E.sl j o s a b
      cases s with
      | none => trivial
      | some s =>
        cases s with
        | d x => obtain ⟨v, e, t⟩ := q; exact ⟨v, e, t.wr h⟩
        | obj a => exact q
        | ro es' => exact q
        | ex φ => obtain ⟨v, e, z, x⟩ := q; exact ⟨v, e, x.wr h z, x⟩
        | own es' =>
          obtain ⟨r, zs, e1, h2, h3, h4, h5⟩ := q
          refine ⟨r, zs, e1, h2, ?_, h4.wr h, h5⟩
          rw [upd_ne (fun z => e (E.sep i j _ _ _ hr b hs (by rw [a, e1, z])))]
          exact h3
  · have key : ∀ (m : Nat) (dd : List PyData), (ρ.set i (some (.own es)))[m]? = some (some (.own dd)) → ∃ d3, ρ[m]? = some (some (.own d3)) := fun m dd q => by
      rw [List.getElem?_set] at q
      by_cases e : i = m
      · subst e; exact ⟨_, hr⟩
      · rw [if_neg e] at q; exact ⟨_, q⟩
    obtain ⟨d3, a'⟩ := key j d1 a
    obtain ⟨d4, b'⟩ := key k d2 b
    exact E.sep j k d3 d4 o a' b' c d
end
end Vd
set_option Elab.async false
set_option linter.all false
set_option maxRecDepth 100000
set_option maxHeartbeats 4000000
/-! promises of defs that are only called where no repr is under way (that lets them call repr) -/
namespace Vd
open PySem PySem.Spec PyProof.Rows L2
structure FnG (P : Program) (w : World) (K : Fr) (mg : Str → Option Value) (base : Heap) (k : Nat) (f : Addr) (fd : FuncData) (ps : List Str) (sp : Sp) : Prop where
  ln : ∀ vs H Q E, sp vs H Q E → vs.length = ps.length
  go : ∀ (B : Around) (out : List PySem.Env) (s : Shared) (H : Hp) (args : Args) (us : List Value) (vs : List V) (Q : VK) (E : XK),
    B.guards = some [] → Room k B → Env0 P w K mg base B out s H → BindsTo s fd args (ps.zip us) → Vals vs us → sp vs H Q E →
      codeAny (model P w) B (.call (.ref f) args) (CR CX0 out P w H s Q E) s
section
variable {P : Program} {w : World} {K : Fr} {mg : Str → Option Value} {base : Heap}
theorem FnG.of {k : Nat} {f : Addr} {fd : FuncData} {ps : List Str} {sp : Sp} (F : FnOk P w K mg base CX0 k f fd ps sp) : FnG P w K mg base k f fd ps sp :=
  ⟨F.len, fun B out s H args us vs Q E _ r e b v h => F.run B out s H args us vs Q E r e b v h⟩
/-- how a def's end comes back to its caller -/
theorem cr_of {out : List PySem.Env} {s s' : Shared} {H : Hp} {Q : VK} {E : XK} {X : Cx} (hX : X.s_0 = s ∧ X.H_0 = H ∧ X.outer = out ∧ X.ex = [] ∧ X.prog = P ∧ X.w = w) {fl : Flow}
    (h : SP X [] { nx := fun _ H' => Q .non H', rt := Q } fl s') : CR CX0 out P w H s Q E (match fl with | .next => .ok (.ret .none) | z => .ok z) s' := by
  obtain ⟨rfl, rfl, rfl, hx, rfl, rfl⟩ := hX
  have end_ : ∀ {σ : L2.St} {H2 : Hp} {v : V} {u : Value}, Inv X [] σ H2 s' → RelV v u → Q v H2 → CE X.outer X.prog X.w X.H_0 X.s_0 Q u s' :=
    fun {σ H2 v u} J rv q => ⟨v, H2, J.os, J.bare, by have z := J.base; rw [hx] at z; exact z, J.hok, rv, q⟩
  cases fl with
  | ret u => obtain ⟨v, σ, H2, J, rv, q⟩ := h; exact end_ J rv q
  | next => obtain ⟨σ, H2, J, q⟩ := h; exact end_ (v := V.non) (u := Value.none) J rfl q
  | brk => obtain ⟨_, _, _, q⟩ := h; exact q.elim
  | cont => obtain ⟨_, _, _, q⟩ := h; exact q.elim
theorem Fun.okG {x qual : Str} {st : Stmt} {f : Addr} {fd : FuncData} {N ps : List Str} {k : Nat} {sp : Sp} (F : Fun K x qual st f fd) (S : FnScope N ps (defScope st))
    (ln : ∀ vs H Q E, sp vs H Q E → vs.length = ps.length)
    (body : ∀ (cdv : Value) (B : Around) (out : List PySem.Env) (s : Shared) (H : Hp) (vs : List V) (Q : VK) (E : XK), B.guards = some [] → Room k (B.deeper (envOfC qual (defScope st) s.heap.objs.size f cdv)) → sp vs H Q E →
      ∃ t, PSs (cxOf CX0 P w K mg base N qual (defScope st) f cdv B out s H E) (defBody st) t ∧ t { nx := fun _ H' => Q .non H', rt := Q } (start N vs) H) : FnG P w K mg base (k + 1) f fd ps sp := by
  obtain ⟨oc, od, kV, doc, pm, an, cdv, ct, osl, rfl, lk, hcd⟩ := F.ex
  refine ⟨ln, fun B out s H args us vs Q E hg room e0 bnd rel hs => ?_⟩
  have inK : K.In s.heap := e0.mod.kin.keeps fun b o z => (e0.bs b o z).1
  have nol : s.heap.NoLimit := e0.mod.nolimit.keeps fun b o z => (e0.bs b o z).1
  refine codeAny_call_function room.depth (inK _ _ lk) rfl S.co S.gen rfl (PySem.W.codeRec_of inK hcd) (bnd _ _ _ _ ?_)
  refine wpAny_newFunctionEnv_cells S.kind (fun y hy => (S.par y.1 (List.of_mem_zip (a := y.1) (b := y.2) hy).1).imp id fun z => ⟨z, PySem.W.cellsFrom_some _ _ _ (.inl z)⟩) fun env he s1 ic => ?_
  subst he
  refine ⟨nol.keeps ic.toInCall.keep, codeAny_func ?_⟩
  obtain ⟨t, pt, qt⟩ := body cdv B out s H vs Q E hg (room.deeper _) hs
  have I0 := inv_start (P := P) (w := w) (mg := mg) (CX := CX0) (E := E) S room.hd e0 (ln _ _ _ _ hs) rel ic
  refine wpAny_mono (pt.run [] s1 (start N vs) H _ I0 qt) (fun fl s' z => ?_) fun e s' z => z
  have c := cr_of (P := P) (w := w) (out := out) (s := s) (H := H) (Q := Q) (E := E) (X := cxOf CX0 P w K mg base N qual (defScope st) f cdv B out s H E) ⟨rfl, rfl, rfl, rfl, rfl, rfl⟩ z
  cases fl with
  | ret u => exact c
  | next => exact c
  | brk => obtain ⟨_, _, _, q⟩ := z; exact q.elim
  | cont => obtain ⟨_, _, _, q⟩ := z; exact q.elim
end
section
variable {X : Cx} {k : Nat} {f : Addr} {fd : FuncData} {ps : List Str} {sp : Sp} {x : Str} {p pos : Pos} {e : Expr} {es : List Expr} {t : TA}
theorem runG {pins : List (Addr × Obj)} {σ : L2.St} {H : Hp} {s : Shared} {Q : VK} {us : List Value} {vs : List V} (F : FnG X.prog X.w X.K X.mg X.base k f fd ps sp) (hg : X.A.guards = some []) (hr : Room k X.A)
    (hb : Binds X.K fd ps []) (I : Inv X pins σ H s) (r : Vals vs us) (h : sp vs H Q E0) : wpAny (model X.prog X.w) X.A (call (.ref f) us) (EP X pins σ Q) X.xe s := by
  have lu : (us ++ []).length = ps.length := by
    rw [List.append_nil, ← r.length]
    exact F.ln _ _ _ _ h
  have bt := hb s us I.kIn lu
  rw [List.append_nil] at bt
  refine wpAny_call (codeAny_mono (F.go X.A X.stack s H ⟨us, []⟩ us vs Q E0 hg hr I.env0 bt r h) fun res s' z => ?_)
  cases res with
  | error e => exact (show False from z).elim
  | ok fl =>
    cases fl with
    | ret u => exact I.after z
    | next => exact (show False from z).elim
    | brk => exact (show False from z).elim
    | cont => exact (show False from z).elim
theorem pe_callG (F : FnG X.prog X.w X.K X.mg X.base k f fd ps sp) (hgu : X.A.guards = some []) (hr : Room k X.A) (hg : Gl X x) (hm : X.mg x = some (.ref f)) (hk : PySem.W.keepIn X.K (.ref f) = true) (hb : Binds X.K fd ps [])
    (ha : PA X (e :: es) t) (hdb : (x == ("__debug__" : Str)) = false := by decide) (he : starEach (e :: es) X.env = (false, eval e X.env) :: starEach es X.env := by rfl)
    (hpl : (backTo pos (starEach es X.env)).any (·.1) = false := by rfl) : PE X (.Call (.Name x p) (e :: es) [] pos) (fun σ H Q => t σ H fun vs H1 => sp vs H1 Q E0) := by
  refine ⟨fun pins s σ H Q I h => ?_⟩
  refine wpAny_Call_Name_kw (ld_glob I hg hm ?_ hdb)
  exact PySem.W.callWith_K (h₀ := X.base) I.ok.mod.kin hk (thn (ha.run pos pins s σ H _ I h) fun us s1 ⟨vs, H1, I1, r, q⟩ => ⟨I1.kIn, runG F hgu hr hb I1 r q⟩) he hpl
/-- f(k = v, ..), no value by position -/
theorem pe_callK0 {CX : CXT} {E : XK} {ks : List Str} {kws : List Keyword} {tk : TA} {g : List Value → List Value → List Value} {gV : List V → List V → List V} (F : FnOk X.prog X.w X.K X.mg X.base CX k f fd ps sp) (hr : Room k X.A) (hg : Gl X x)
    (hm : X.mg x = some (.ref f)) (hk : PySem.W.keepIn X.K (.ref f) = true) (hb : KBinds X.K fd ps ks g gV) (hx : Passes CX X E) (hkw : PK X kws tk)
    (hall : (backToKw pos (keywordEach kws X.env)).all (·.1.isSome) = true := by rfl) (hks : (backToKw pos (keywordEach kws X.env)).filterMap (·.1) = ks := by rfl)
    (hdb : (x == ("__debug__" : Str)) = false := by decide)
    (hpl : ((backTo pos (starEach [] X.env)).any (·.1) || (backToKw pos (keywordEach kws X.env)).any (·.1.isNone)) = false := by rfl) :
    PE X (.Call (.Name x p) [] kws pos) (fun σ H Q => tk σ H fun zs H1 => sp (gV [] zs) H1 Q E) := by
  refine ⟨fun pins s σ H Q I h => ?_⟩
  refine wpAny_Call_Name_kw (ld_glob I hg hm ?_ hdb)
  refine PySem.W.callWith_KW0 (h₀ := X.base) I.ok.mod.kin hk hall (thn (hkw.run pos pins s σ H _ I h) fun ws s2 ⟨zs, H2, I2, rz, q2⟩ => ⟨I2.kIn, ?_⟩) hpl
  rw [hks]
  exact run_fnk F hr hb hx I2 .nil rz q2
/-- repr of data -/
def rRepr (K : Fr) : List V → Hp → VK → Prop := fun xs H Q => ∃ a d, xs = [.ref a] ∧ Dp K H (.ref a) d ∧ d.showable = true ∧ d.hasDict = false ∧ d.depth ≤ 30 ∧ d.shown.length ≤ sizeLine ∧ Q (.str d.shown) H
theorem cr_repr (hgu : X.A.guards = some []) (hr : Room k X.A) : CallR X (.builtin "repr") (rRepr X.K) := by
  intro pins s σ H xs us Q I r h
  obtain ⟨a, d, rfl, hd, sh, nd, dd, sz, q⟩ := h
  obtain ⟨u, rfl, ru⟩ := vals1 r
  obtain ⟨as, rd⟩ := Dp.reads I d _ _ hd ru
  cases (show u = Value.ref a from ru)
  refine PySem.repr_of_reads' rd sh (PyData.noDict_hsm nd) hgu (by have := hr.un; omega) (fun _ _ z => z) (fun h' u tk kk => ?_) sz
  exact ⟨.str d.shown, H, I.kept kk, ⟨_, rfl⟩, q⟩
end
/-! ### the law's own call -/
end Vd
set_option Elab.async false
set_option linter.all false
set_option maxRecDepth 100000
set_option maxHeartbeats 4000000
/-! what expressions, tests, arguments, statements come to, in data -/
namespace Vd
open PySem PySem.Spec PyProof.Rows L2
def Is {α : Type} (a : α) : α → Prop := fun x => x = a
def EvD (K : Fr) (w : WA) (te : TE) (ρ : Rho) (S : PyData → Prop) : Prop :=
  ∀ (σ : L2.St) (H0 : Bs) (H : Hp), Env K w H0 H σ ρ → ∀ Q : VK, (∀ v d H', Go w H H' → S d → Tp K H' v d → Q v H') → te σ H Q
def EvT (K : Fr) (w : WA) (tt : TT) (ρ : Rho) (S : Bool → Prop) : Prop :=
  ∀ (σ : L2.St) (H0 : Bs) (H : Hp), Env K w H0 H σ ρ → ∀ Q : Bool → Hp → Prop, (∀ b H', Go w H H' → S b → Q b H') → tt σ H Q
def EvA (K : Fr) (w : WA) (ta : TA) (ρ : Rho) (S : List PyData → Prop) : Prop :=
  ∀ (σ : L2.St) (H0 : Bs) (H : Hp), Env K w H0 H σ ρ → ∀ Q : List V → Hp → Prop, (∀ vs ds H', Go w H H' → S ds → TpAll K H' vs ds → Q vs H') → ta σ H Q
/-- a new list -/
def EvL (K : Fr) (w : WA) (te : TE) (ρ : Rho) (S : List PyData → Prop) : Prop :=
  ∀ (σ : L2.St) (H0 : Bs) (H : Hp), Env K w H0 H σ ρ → ∀ Q : VK, (∀ p xs ds H', Go w H H' → S ds → H p = none → H' p = some (.lst xs) → TpAll K H' xs ds → Q (.ref p) H') → te σ H Q
/-- operations by data -/
def Rd2 (K : Fr) (w : WA) (r : R2) (a b : PyData) (S : PyData → Prop) : Prop :=
  ∀ x y H, Wok w H → Tp K H x a → Tp K H y b → ∀ Q : VK, (∀ v d H', Go w H H' → S d → Tp K H' v d → Q v H') → r x y H Q
def Rd1 (K : Fr) (w : WA) (r : V → Hp → VK → Prop) (a : PyData) (S : PyData → Prop) : Prop :=
  ∀ x H, Wok w H → Tp K H x a → ∀ Q : VK, (∀ v d H', Go w H H' → S d → Tp K H' v d → Q v H') → r x H Q
def RdA (K : Fr) (w : WA) (r : List V → Hp → VK → Prop) (ds : List PyData) (S : PyData → Prop) : Prop :=
  ∀ vs H, Wok w H → TpAll K H vs ds → ∀ Q : VK, (∀ v d H', Go w H H' → S d → Tp K H' v d → Q v H') → r vs H Q
section
variable {K : Fr} {w : WA} {ρ : Rho} {te ta tb tx : TE} {t u : TT} {S Sa Sb : PyData → Prop} {a b d : PyData} {r : R2}
theorem EvD.mono (h : EvD K w te ρ S) (m : ∀ d, S d → Sb d) : EvD K w te ρ Sb := fun σ H0 H E Q q => h σ H0 H E Q fun v d H' g s t => q v d H' g (m d s) t
theorem EvT.mono {S S' : Bool → Prop} (h : EvT K w t ρ S) (m : ∀ d, S d → S' d) : EvT K w t ρ S' := fun σ H0 H E Q q => h σ H0 H E Q fun v H' g s => q v H' g (m v s)
theorem ev_is {d' : PyData} (h : EvD K w te ρ (Is d)) (e : d = d') : EvD K w te ρ (Is d') := by rw [← e]; exact h
/-- what is known of a slot -/
def gv (ρ : Rho) (i : Nat) : PyData := match ρ[i]? with
  | some (some (.d x)) => x
  | _ => .none
theorem ev_var {i : Nat} (h : ρ[i]? = some (some (.d (gv ρ i))) := by rfl) : EvD K w (tVar i) ρ (Is (gv ρ i)) := fun σ H0 H E Q q => by
  obtain ⟨v, e, t⟩ := E.gd h
  exact ⟨v, e, q v _ H (Go.refl E.wok) rfl t⟩
theorem ev_int {i : Int} : EvD K w (tC (.int i)) ρ (Is (.int i)) := fun σ H0 H E Q q => q _ _ H (Go.refl E.wok) rfl (.int i)
theorem ev_str {i : Str} : EvD K w (tC (.str i)) ρ (Is (.str i)) := fun σ H0 H E Q q => q _ _ H (Go.refl E.wok) rfl (.str i)
theorem ev_non : EvD K w (tC .non) ρ (Is .none) := fun σ H0 H E Q q => q _ _ H (Go.refl E.wok) rfl .non
/-- a constant of the module -/
def KD (K : Fr) (v : V) (d : PyData) : Prop := ∀ H, Tp K H v d
theorem ev_k {v : V} (h : KD K v d) : EvD K w (tC v) ρ (Is d) := fun σ H0 H E Q q => q _ _ H (Go.refl E.wok) rfl (h H)
theorem ev_op (ha : EvD K w ta ρ Sa) (hb : EvD K w tb ρ Sb) (hr : ∀ a b, Sa a → Sb b → Rd2 K w r a b S) : EvD K w (tOp r ta tb) ρ S := fun σ H0 H E Q q =>
  ha σ H0 H E _ fun x a H1 g1 sa ta1 => hb σ H0 H1 (E.go g1) _ fun y b H2 g2 sb tb2 => hr a b sa sb x y H2 g2.2 (ta1.go g1.2 g2) tb2 Q fun v d H3 g3 s t3 => q v d H3 ((g1.trans g2).trans g3) s t3
theorem ev_un {r : V → Hp → VK → Prop} (ha : EvD K w ta ρ Sa) (hr : ∀ a, Sa a → Rd1 K w r a S) : EvD K w (tUn r ta) ρ S := fun σ H0 H E Q q =>
  ha σ H0 H E _ fun x a H1 g1 sa ta1 => hr a sa x H1 g1.2 ta1 Q fun v d H3 g3 s t3 => q v d H3 (g1.trans g3) s t3
theorem rd_I {C : Int → Int → Prop} {g : Int → Int → V} {i j : Int} {d : PyData} (hc : C i j) (hg : ∀ H, Tp K H (g i j) d) : Rd2 K w (rI C g) (.int i) (.int j) (Is d) := fun x y H k tx ty Q q => by
  rw [tx.inv_int, ty.inv_int]
  exact ⟨i, j, rfl, rfl, hc, q _ _ H (Go.refl k) rfl (hg H)⟩
theorem rd_I0 {g : Int → Int → V} {i j : Int} {d : PyData} (hg : ∀ H, Tp K H (g i j) d) : Rd2 K w (rI0 g) (.int i) (.int j) (Is d) := fun x y H k tx ty Q q => by
  rw [tx.inv_int, ty.inv_int]
  exact ⟨i, j, rfl, rfl, q _ _ H (Go.refl k) rfl (hg H)⟩
/-- ints: + - and the like, told values -/
theorem ev_I0 {f : Int → Int → Int} {i j : Int} (ha : EvD K w ta ρ (Is (.int i))) (hb : EvD K w tb ρ (Is (.int j))) : EvD K w (tOp (rI0 fun i j => .int (f i j)) ta tb) ρ (Is (.int (f i j))) :=
  ev_op ha hb fun a b ea eb => by rw [ea, eb]; exact rd_I0 fun H => .int _
theorem ev_B0 {f : Int → Int → Bool} {i j : Int} (ha : EvD K w ta ρ (Is (.int i))) (hb : EvD K w tb ρ (Is (.int j))) : EvD K w (tOp (rI0 fun i j => .bl (f i j)) ta tb) ρ (Is (.bool (f i j))) :=
  ev_op ha hb fun a b ea eb => by rw [ea, eb]; exact rd_I0 fun H => .bl _
theorem ev_I {C : Int → Int → Prop} {f : Int → Int → Int} {i j : Int} (ha : EvD K w ta ρ (Is (.int i))) (hb : EvD K w tb ρ (Is (.int j))) (hc : C i j) : EvD K w (tOp (rI C fun i j => .int (f i j)) ta tb) ρ (Is (.int (f i j))) :=
  ev_op ha hb fun a b ea eb => by rw [ea, eb]; exact rd_I hc fun H => .int _
/-- ints that are only known to be so -/
def IntP (P : Int → Prop) : PyData → Prop := fun d => ∃ i, d = .int i ∧ P i
theorem ev_asP {P : Int → Prop} {i : Int} (ha : EvD K w ta ρ (Is (.int i))) (h : P i) : EvD K w ta ρ (IntP P) := ha.mono fun d e => ⟨i, e, h⟩
theorem ev_I0P {f : Int → Int → Int} {P R : Int → Prop} (ha : EvD K w ta ρ (IntP P)) (hb : EvD K w tb ρ (IntP R)) : EvD K w (tOp (rI0 fun i j => .int (f i j)) ta tb) ρ (IntP fun k => ∃ i j, P i ∧ R j ∧ k = f i j) :=
  ev_op ha hb fun a b ⟨i, ea, pa⟩ ⟨j, eb, pb⟩ x y H k tx ty Q q => by
    subst ea; subst eb
    rw [tx.inv_int, ty.inv_int]
    exact ⟨i, j, rfl, rfl, q _ _ H (Go.refl k) ⟨_, rfl, i, j, pa, pb, rfl⟩ (.int _)⟩
theorem ev_B0P {f : Int → Int → Bool} {P R : Int → Prop} (ha : EvD K w ta ρ (IntP P)) (hb : EvD K w tb ρ (IntP R)) : EvD K w (tOp (rI0 fun i j => .bl (f i j)) ta tb) ρ (fun d => ∃ i j, P i ∧ R j ∧ d = .bool (f i j)) :=
  ev_op ha hb fun a b ⟨i, ea, pa⟩ ⟨j, eb, pb⟩ x y H k tx ty Q q => by
    subst ea; subst eb
    rw [tx.inv_int, ty.inv_int]
    exact ⟨i, j, rfl, rfl, q _ _ H (Go.refl k) ⟨i, j, pa, pb, rfl⟩ (.bl _)⟩
theorem ev_IP {C : Int → Int → Prop} {f : Int → Int → Int} {P R : Int → Prop} (ha : EvD K w ta ρ (IntP P)) (hb : EvD K w tb ρ (IntP R)) (hc : ∀ i j, P i → R j → C i j) : EvD K w (tOp (rI C fun i j => .int (f i j)) ta tb) ρ (IntP fun k => ∃ i j, P i ∧ R j ∧ k = f i j) :=
  ev_op ha hb fun a b ⟨i, ea, pa⟩ ⟨j, eb, pb⟩ x y H k tx ty Q q => by
    subst ea; subst eb
    rw [tx.inv_int, ty.inv_int]
    exact ⟨i, j, rfl, rfl, hc i j pa pb, q _ _ H (Go.refl k) ⟨_, rfl, i, j, pa, pb, rfl⟩ (.int _)⟩
theorem ev_neg {i : Int} (ha : EvD K w ta ρ (Is (.int i))) : EvD K w (tUn (rU fun i => .int (-i)) ta) ρ (Is (.int (-i))) := ev_un ha fun a ea x H k tx Q q => by
  rw [ea] at tx
  rw [tx.inv_int]
  exact ⟨i, rfl, q _ _ H (Go.refl k) rfl (.int _)⟩
/-- == and != of data -/
theorem ev_eqD (ha : EvD K w ta ρ (Is a)) (hb : EvD K w tb ρ (Is b)) (sa : SeqAt.shaped a = true) (sb : SeqAt.shaped b = true) : EvD K w (tOp (rEqD K) ta tb) ρ (Is (.bool (PyData.eqv a b))) :=
  ev_op ha hb fun a' b' ea eb x y H k tx ty Q q => by
    rw [ea] at tx; rw [eb] at ty
    exact ⟨a, b, tx.dp (nd_sh sa), ty.dp (nd_sh sb), sa, sb, q _ _ H (Go.refl k) rfl (.bl _)⟩
theorem ev_neD (ha : EvD K w ta ρ (Is a)) (hb : EvD K w tb ρ (Is b)) (sa : SeqAt.shaped a = true) (sb : SeqAt.shaped b = true) : EvD K w (tOp (rNeD K) ta tb) ρ (Is (.bool (!PyData.eqv a b))) :=
  ev_op ha hb fun a' b' ea eb x y H k tx ty Q q => by
    rw [ea] at tx; rw [eb] at ty
    exact ⟨a, b, tx.dp (nd_sh sa), ty.dp (nd_sh sb), sa, sb, q _ _ H (Go.refl k) rfl (.bl _)⟩
/-- t[i] -/
theorem atI_map {α β : Type} {xs : List α} {ys : List β} (hl : xs.length = ys.length) {n : Int} {y : β} (h : atI ys n = some y) : ∃ j x, ixN xs.length n = some j ∧ ys[j]? = some y ∧ xs[j]? = some x ∧ atI xs n = some x := by
  unfold atI at h
  cases e : ixN ys.length n with
  | none => rw [e] at h; cases h
  | some j =>
    rw [e] at h
    have h' : ys[j]? = some y := h
    have hj : j < xs.length := by rw [hl]; exact (List.getElem?_eq_some_iff.mp h').1
    refine ⟨j, xs[j], by rw [hl]; exact e, h', List.getElem?_eq_getElem hj, ?_⟩
    unfold atI
    rw [hl, e]
    exact List.getElem?_eq_getElem hj
theorem rd_ixT {ds : List PyData} {n : Int} {d : PyData} (h : atI ds n = some d) : Rd2 K w (rIxT K) (.tuple ds) (.int n) (Is d) := fun x y H k tx ty Q q => by
  obtain ⟨p, xs, rfl, sq, al⟩ := tx.inv_tup
  rw [ty.inv_int]
  obtain ⟨j, v, _, hd, hv, hx⟩ := atI_map al.length h
  obtain ⟨v', e, tv⟩ := al.get hd
  rw [hv] at e; cases e
  exact ⟨p, xs, n, v, rfl, rfl, sq, hx, q v d H (Go.refl k) rfl tv⟩
theorem ev_ixT {ds : List PyData} {n : Int} (ha : EvD K w ta ρ (Is (.tuple ds))) (hb : EvD K w tb ρ (Is (.int n))) (h : atI ds n = some d := by rfl) : EvD K w (tOp (rIxT K) ta tb) ρ (Is d) :=
  ev_op ha hb fun a b ea eb => by rw [ea, eb]; exact rd_ixT h
/-- t[a draw] -/
theorem ev_ixTP {ds : List PyData} {P : Int → Prop} (ha : EvD K w ta ρ (Is (.tuple ds))) (hb : EvD K w tb ρ (IntP P)) (h : ∀ n, P n → ∃ d, atI ds n = some d ∧ S d) : EvD K w (tOp (rIxT K) ta tb) ρ S :=
  ev_op ha hb fun a b ea ⟨n, eb, pn⟩ => by
    rw [ea, eb]
    obtain ⟨d, h1, h2⟩ := h n pn
    exact fun x y H k tx ty Q q => rd_ixT h1 x y H k tx ty Q fun v d' H' g s t => q v d' H' g (by rw [s]; exact h2) t
/-! arguments, displays -/
theorem ea_nil : EvA K w tNil ρ (Is []) := fun σ H0 H E Q q => q [] [] H (Go.refl E.wok) rfl .nil
theorem ea_cons {tr : TA} {ds : List PyData} (h : EvD K w te ρ (Is d)) (hr : EvA K w tr ρ (Is ds)) : EvA K w (tCons te tr) ρ (Is (d :: ds)) := fun σ H0 H E Q q =>
  h σ H0 H E _ fun v d' H1 g1 s1 t1 => hr σ H0 H1 (E.go g1) _ fun vs ds' H2 g2 s2 t2 => q _ _ H2 (g1.trans g2) rfl (.cons (by rw [← show d' = d from s1]; exact t1.go g1.2 g2) (by rw [← show ds' = ds from s2]; exact t2))
theorem ea_consP {tr : TA} {Ss : List PyData → Prop} (h : EvD K w te ρ S) (hr : EvA K w tr ρ Ss) : EvA K w (tCons te tr) ρ (fun l => ∃ d ds, l = d :: ds ∧ S d ∧ Ss ds) := fun σ H0 H E Q q =>
  h σ H0 H E _ fun v d' H1 g1 s1 t1 => hr σ H0 H1 (E.go g1) _ fun vs ds' H2 g2 s2 t2 => q _ _ H2 (g1.trans g2) ⟨_, _, rfl, s1, s2⟩ (.cons (t1.go g1.2 g2) t2)
theorem EvA.mono {ta : TA} {Ss Ss' : List PyData → Prop} (h : EvA K w ta ρ Ss) (m : ∀ d, Ss d → Ss' d) : EvA K w ta ρ Ss' := fun σ H0 H E Q q => h σ H0 H E Q fun v d H' g s t => q v d H' g (m d s) t
theorem ev_tup {ta : TA} {ds : List PyData} (h : EvA K w ta ρ (Is ds)) (hl : ds.length ≤ 100000 := by exact Nat.le_of_ble_eq_true rfl) : EvD K w (tTup ta) ρ (Is (.tuple ds)) := fun σ H0 H E Q q =>
  h σ H0 H E _ fun vs ds' H1 g1 s1 t1 => by
    cases (show ds' = ds from s1)
    exact ⟨Evl.sz_of (by rw [t1.length]; exact hl), fun p hp => q _ _ _ (g1.trans (Go.new g1.2 hp)) rfl (.tup (.inl (.inl upd_same)) (t1.go g1.2 (Go.new g1.2 hp)))⟩
theorem ev_tupP {ta : TA} {Ss : List PyData → Prop} (h : EvA K w ta ρ Ss) (hl : ∀ ds, Ss ds → ds.length ≤ 100000) : EvD K w (tTup ta) ρ (fun d => ∃ ds, d = .tuple ds ∧ Ss ds) := fun σ H0 H E Q q =>
  h σ H0 H E _ fun vs ds' H1 g1 s1 t1 => ⟨Evl.sz_of (by rw [t1.length]; exact hl _ s1), fun p hp => q _ _ _ (g1.trans (Go.new g1.2 hp)) ⟨_, rfl, s1⟩ (.tup (.inl (.inl upd_same)) (t1.go g1.2 (Go.new g1.2 hp)))⟩
theorem el_lst {ta : TA} {Ss : List PyData → Prop} (h : EvA K w ta ρ Ss) (hl : ∀ ds, Ss ds → ds.length ≤ 100000) : EvL K w (tLst ta) ρ Ss := fun σ H0 H E Q q =>
  h σ H0 H E _ fun vs ds' H1 g1 s1 t1 => ⟨Evl.sz_of (by rw [t1.length]; exact hl _ s1), fun p hp => by
    have hw : w ≠ some p := fun z => by obtain ⟨_, _, _, y⟩ := g1.2 p z; rw [hp] at y; cases y
    refine q p _ _ _ (g1.trans (Go.new g1.2 hp)) s1 ?_ upd_same (t1.go g1.2 (Go.new g1.2 hp))
    cases e : H p with
    | none => rfl
    | some o => exact absurd hp (Kp.nn g1.1 hw e)⟩
theorem EvL.mono {Ss Ss' : List PyData → Prop} (h : EvL K w te ρ Ss) (m : ∀ d, Ss d → Ss' d) : EvL K w te ρ Ss' := fun σ H0 H E Q q => h σ H0 H E Q fun p xs ds H' g s a b c => q p xs ds H' g (m ds s) a b c
/-- a new list of as many times another new one -/
theorem el_rep {Ss : List PyData → Prop} {k : Int} (ha : EvL K w ta ρ Ss) (hb : EvD K w tb ρ (Is (.int k))) (hk : 0 ≤ k ∧ k ≤ 100) (hl : ∀ ds, Ss ds → ds.length ≤ 100) : EvL K w (tOp rRep ta tb) ρ (fun l => ∃ ds, Ss ds ∧ l = (List.replicate k.toNat ds).flatten) := fun σ H0 H E Q q =>
  ha σ H0 H E _ fun p xs ds H1 g1 s1 n1 h1 t1 => hb σ H0 H1 (E.go g1) _ fun y b H2 g2 s2 t2 => by
    rw [show b = .int k from s2] at t2
    rw [t2.inv_int]
    have hw : w ≠ some p := fun z => by obtain ⟨_, _, _, y⟩ := E.wok p z; rw [n1] at y; cases y
    have t1' := t1.go g1.2 g2
    refine ⟨p, k, xs, rfl, rfl, g2.1 p _ hw h1, by omega, by omega, Evl.sz_of ?_, fun l hn => ?_⟩
    · have := t1.length
      have := hl _ s1
      calc xs.length * k.toNat ≤ 100 * 100 := Nat.mul_le_mul (by omega) (by omega)
        _ ≤ 100000 := by decide
    · have hwl : w ≠ some l := fun z => by obtain ⟨_, _, _, y⟩ := g2.2 l z; rw [hn] at y; cases y
      have hn1 : H l = none := by
        cases e : H l with
        | none => rfl
        | some o => exact absurd hn (Kp.nn ((g1.trans g2).1) hwl e)
      refine q l _ _ _ ((g1.trans g2).trans (Go.new g2.2 hn)) ⟨ds, s1, rfl⟩ hn1 upd_same ?_
      have t3 := t1'.go g2.2 (Go.new (o := .lst (List.replicate k.toNat xs).flatten) g2.2 hn)
      generalize upd H2 l (.lst (List.replicate k.toNat xs).flatten) = HH at t3
      generalize k.toNat = m
      induction m with
      | zero => exact .nil
      | succ m ih => rw [List.replicate_succ, List.flatten_cons, List.replicate_succ, List.flatten_cons]; exact t3.append ih
/-! calls -/
theorem ev_cb {ta : TA} {r : List V → Hp → VK → Prop} {Ss : List PyData → Prop} (h : EvA K w ta ρ Ss) (hr : ∀ ds, Ss ds → RdA K w r ds S) : EvD K w (tCB r ta) ρ S := fun σ H0 H E Q q =>
  h σ H0 H E _ fun vs ds H1 g1 s1 t1 => hr ds s1 vs H1 g1.2 t1 Q fun v d H2 g2 s2 t2 => q v d H2 (g1.trans g2) s2 t2
theorem TpAll.one {H : Hp} {vs : List V} {d : PyData} (h : TpAll K H vs [d]) : ∃ v, vs = [v] ∧ Tp K H v d := by
  cases h with
  | cons h1 h2 => cases h2; exact ⟨_, rfl, h1⟩
theorem TpAll.two {H : Hp} {vs : List V} {d e : PyData} (h : TpAll K H vs [d, e]) : ∃ v u, vs = [v, u] ∧ Tp K H v d ∧ Tp K H u e := by
  cases h with
  | cons h1 h2 =>
    obtain ⟨u, rfl, h3⟩ := h2.one
    exact ⟨_, _, rfl, h1, h3⟩
/-- a def's promise in data -/
def spP {α : Type} (K : Fr) (enc : α → List PyData) (P : α → Prop) (S : α → PyData → Prop) : Sp := fun vs H Q _ =>
  ∃ a, TpAll K H vs (enc a) ∧ P a ∧ Tq K H ∧ ∀ v d H', Kx H H' → S a d → Tp K H' v d → Q v H'
/-- .. of a def whose first argument is the well -/
def spW {α : Type} (K : Fr) (enc : α → List PyData) (P : α → Prop) (S : α → PyData → Prop) : Sp := fun vs H Q _ =>
  ∃ (a : α) (wa : Addr) (vs' : List V), vs = .ref wa :: vs' ∧ WOk H wa ∧ TpAll K H vs' (enc a) ∧ P a ∧ Tq K H ∧ ∀ v d H', Go (some wa) H H' → S a d → Tp K H' v d → Q v H'
theorem ev_call {α : Type} {enc : α → List PyData} {P : α → Prop} {Sf : α → PyData → Prop} {E : XK} {ta : TA} {Ss : List PyData → Prop} (h : EvA K w ta ρ Ss) (hs : ∀ ds, Ss ds → ∃ a, ds = enc a ∧ P a ∧ ∀ d, Sf a d → S d) : EvD K w (tCall (spP K enc P Sf) [] E ta) ρ S := fun σ H0 H En Q q =>
  h σ H0 H En _ fun vs ds H1 g1 s1 t1 => by
    obtain ⟨a, rfl, p, k⟩ := hs ds s1
    rw [List.append_nil]
    exact ⟨a, t1, p, (En.go g1).tq, fun v d H2 ex s2 t2 => q v d H2 (g1.trans (Go.ex g1.2 ex)) (k d s2) t2⟩
theorem ev_callD {α : Type} {enc : α → List PyData} {P : α → Prop} {Sf : α → PyData → Prop} {E : XK} {ta : TA} (a : α) (h : EvA K w ta ρ (Is (enc a))) (p : P a) : EvD K w (tCall (spP K enc P Sf) [] E ta) ρ (Sf a) :=
  ev_call h fun ds e => ⟨a, e, p, fun _ s => s⟩
theorem ev_callW {α : Type} {enc : α → List PyData} {P : α → Prop} {Sf : α → PyData → Prop} {E : XK} {ta : TA} {i : Nat} {wa : Addr} {Ss : List PyData → Prop} (hw : ρ[i]? = some (some (.obj wa))) (h : EvA K (some wa) ta ρ Ss) (hs : ∀ ds, Ss ds → ∃ a, ds = enc a ∧ P a ∧ ∀ d, Sf a d → S d) : EvD K (some wa) (tCall (spW K enc P Sf) [] E (tCons (tVar i) ta)) ρ S := fun σ H0 H En Q q =>
  ⟨.ref wa, En.go_ hw, h σ H0 H En _ fun vs ds H1 g1 s1 t1 => by
    obtain ⟨a, rfl, p, k⟩ := hs ds s1
    rw [List.append_nil]
    exact ⟨a, wa, vs, rfl, g1.2 wa rfl, t1, p, (En.go g1).tq, fun v d H2 g2 s2 t2 => q v d H2 (g1.trans g2) (k d s2) t2⟩⟩
theorem ev_callWD {α : Type} {enc : α → List PyData} {P : α → Prop} {Sf : α → PyData → Prop} {E : XK} {ta : TA} {i : Nat} {wa : Addr} (a : α) (hw : ρ[i]? = some (some (.obj wa))) (h : EvA K (some wa) ta ρ (Is (enc a))) (p : P a) : EvD K (some wa) (tCall (spW K enc P Sf) [] E (tCons (tVar i) ta)) ρ (Sf a) :=
  ev_callW hw h fun ds e => ⟨a, e, p, fun _ s => s⟩
/-- a call by keywords alone -/
theorem ev_callK0 {α : Type} {enc : α → List PyData} {P : α → Prop} {Sf : α → PyData → Prop} {E : XK} {ta : TA} {gV : List V → List V → List V} {gD : List PyData → List PyData} (hgv : ∀ {H vs ds}, TpAll K H vs ds → TpAll K H (gV [] vs) (gD ds)) {Ss : List PyData → Prop} (h : EvA K w ta ρ Ss) (hs : ∀ ds, Ss ds → ∃ a, gD ds = enc a ∧ P a ∧ ∀ d, Sf a d → S d) :
    EvD K w (fun σ H Q => ta σ H fun zs H1 => spP K enc P Sf (gV [] zs) H1 Q E) ρ S := fun σ H0 H En Q q =>
  h σ H0 H En _ fun vs ds H1 g1 s1 t1 => by
    obtain ⟨a, e, p, k⟩ := hs ds s1
    exact ⟨a, by rw [← e]; exact hgv t1, p, (En.go g1).tq, fun v d H2 ex s2 t2 => q v d H2 (g1.trans (Go.ex g1.2 ex)) (k d s2) t2⟩
/-! tests, choices -/
theorem et_test {b : Bool} (h : EvD K w te ρ (Is (.bool b))) : EvT K w (tTest te) ρ (Is b) := fun σ H0 H E Q q => h σ H0 H E _ fun v d H1 g s t => by
  rw [show d = .bool b from s] at t
  exact ⟨b, t.inv_bl, q b H1 g rfl⟩
theorem et_testP {S : Bool → Prop} (h : EvD K w te ρ (fun d => ∃ b, d = .bool b ∧ S b)) : EvT K w (tTest te) ρ S := fun σ H0 H E Q q => h σ H0 H E _ fun v d H1 g ⟨b, e, s⟩ t => by
  rw [e] at t
  exact ⟨b, t.inv_bl, q b H1 g s⟩
theorem et_B {b : Bool} (h : EvD K w te ρ (Is (.bool b))) : EvT K w (tB te) ρ (Is b) := et_test h
theorem et_and {a b : Bool} (h1 : EvT K w t ρ (Is a)) (h2 : a = true → EvT K w u ρ (Is b)) : EvT K w (tAnd t u) ρ (Is (a && b)) := fun σ H0 H E Q q => h1 σ H0 H E _ fun c H1 g s => by
  cases (show c = a from s)
  cases a with
  | true => exact iteT (h2 rfl σ H0 H1 (E.go g) Q fun c H2 g2 s2 => q c H2 (g.trans g2) (by rw [show c = b from s2]; rfl))
  | false => exact iteF (q false H1 g rfl)
theorem et_or {a b : Bool} (h1 : EvT K w t ρ (Is a)) (h2 : a = false → EvT K w u ρ (Is b)) : EvT K w (tOr t u) ρ (Is (a || b)) := fun σ H0 H E Q q => h1 σ H0 H E _ fun c H1 g s => by
  cases (show c = a from s)
  cases a with
  | true => exact iteT (q true H1 g rfl)
  | false => exact iteF (h2 rfl σ H0 H1 (E.go g) Q fun c H2 g2 s2 => q c H2 (g.trans g2) (by rw [show c = b from s2]; rfl))
theorem et_not {a : Bool} (h1 : EvT K w t ρ (Is a)) : EvT K w (tNot t) ρ (Is (!a)) := fun σ H0 H E Q q => h1 σ H0 H E _ fun c H1 g s => q (!c) H1 g (by rw [show c = a from s]; rfl)
theorem ev_andV {a b : Bool} (h1 : EvD K w ta ρ (Is (.bool a))) (h2 : a = true → EvD K w tb ρ (Is (.bool b))) : EvD K w (tAndV ta tb) ρ (Is (.bool (a && b))) := fun σ H0 H E Q q => h1 σ H0 H E _ fun v c H1 g s t => by
  cases (show c = _ from s)
  refine ⟨a, t.inv_bl, ?_⟩
  cases a with
  | true => exact iteT (h2 rfl σ H0 H1 (E.go g) Q fun v c H2 g2 s2 t2 => q v c H2 (g.trans g2) (by rw [show c = _ from s2]; rfl) t2)
  | false => exact iteF (q _ _ H1 g rfl (.bl false))
theorem ev_orV {a b : Bool} (h1 : EvD K w ta ρ (Is (.bool a))) (h2 : a = false → EvD K w tb ρ (Is (.bool b))) : EvD K w (tOrV ta tb) ρ (Is (.bool (a || b))) := fun σ H0 H E Q q => h1 σ H0 H E _ fun v c H1 g s t => by
  cases (show c = _ from s)
  refine ⟨a, t.inv_bl, ?_⟩
  cases a with
  | true => exact iteT (q _ _ H1 g rfl (.bl true))
  | false => exact iteF (h2 rfl σ H0 H1 (E.go g) Q fun v c H2 g2 s2 t2 => q v c H2 (g.trans g2) (by rw [show c = _ from s2]; rfl) t2)
theorem ev_notV {a : Bool} (h1 : EvD K w ta ρ (Is (.bool a))) : EvD K w (tNotV ta) ρ (Is (.bool (!a))) := fun σ H0 H E Q q => h1 σ H0 H E _ fun v c H1 g s t => by
  cases (show c = _ from s)
  exact ⟨a, t.inv_bl, q _ _ H1 g rfl (.bl _)⟩
theorem ev_if {Sc : Bool → Prop} (h : EvT K w t ρ Sc) (h1 : Sc true → EvD K w ta ρ S) (h2 : Sc false → EvD K w tb ρ S) : EvD K w (tIf t ta tb) ρ S := fun σ H0 H E Q q => h σ H0 H E _ fun c H1 g s => by
  cases c with
  | true => exact iteT (h1 s σ H0 H1 (E.go g) Q fun v d H2 g2 s2 t2 => q v d H2 (g.trans g2) s2 t2)
  | false => exact iteF (h2 s σ H0 H1 (E.go g) Q fun v d H2 g2 s2 t2 => q v d H2 (g.trans g2) s2 t2)
end
/-! ### statements -/
/-- what is handed back: data, or a new list of one's own -/
structure Rt where
  d : PyData → Prop
  l : List PyData → Prop := fun _ => False
instance : Coe (PyData → Prop) Rt := ⟨fun S => ⟨S, fun _ => False⟩⟩
instance : CoeFun Rt (fun _ => PyData → Prop) := ⟨Rt.d⟩
/-- from the slots ρ: hands back what R says, or goes on with slots that N says -/
def Run (K : Fr) (w : WA) (ts : TS) (ρ : Rho) (R : Rt) (N : Rho → Prop) : Prop :=
  ∀ (D : Ends) (σ : L2.St) (H0 : Bs) (H : Hp), Env K w H0 H σ ρ → ((∀ v d H', Go w H0.h H' → R.d d → Tp K H' v d → D.rt v H') ∧ (∀ p xs ds H', Go w H0.h H' → R.l ds → H0.h p = none → H' p = some (.lst xs) → TpAll K H' xs ds → D.rt (.ref p) H')) → (∀ σ' ρ' H', Env K w H0 H' σ' ρ' → N ρ' → D.nx σ' H') → ts D σ H
section
variable {K : Fr} {w : WA} {ρ : Rho} {te ta tb : TE} {tt : TT} {S : PyData → Prop} {R : Rt} {N N1 : Rho → Prop} {ts tu tv : TS} {g : TG}
theorem run_seq (h : Run K w ts ρ R N1) (k : ∀ ρ', N1 ρ' → Run K w tu ρ' R N) : Run K w (tSeq ts tu) ρ R N := fun D σ H0 H E r n => h { D with nx := tu D } σ H0 H E r fun σ' ρ' H' e s => k ρ' s D σ' H0 H' e r n
theorem run_next (h : N ρ) : Run K w tNext ρ R N := fun D σ H0 H E r n => n σ ρ H E h
theorem run_ret (h : EvD K w te ρ S) (k : ∀ d, S d → R d) : Run K w (tRet te) ρ R N := fun D σ H0 H E r n => h σ H0 H E _ fun v d H' g s t => r.1 v d H' ⟨E.kp.trans g.1, g.2⟩ (k d s) t
theorem run_set {i : Nat} (h : EvD K w te ρ S) (k : ∀ d, S d → N (ρ.set i (some (.d d)))) : Run K w (tAsg te (gName i)) ρ R N := fun D σ H0 H E r n => h σ H0 H E _ fun v d H' g s t => n _ _ H' ((E.go g).setd t i) (k d s)
theorem run_sets {i : Nat} (h : EvD K w te ρ S) (k : ∀ d, S d → Run K w tu (ρ.set i (some (.d d))) R N) : Run K w (tSeq (tAsg te (gName i)) tu) ρ R N := run_seq (N1 := fun ρ' => ∃ d, S d ∧ ρ' = ρ.set i (some (.d d))) (run_set h fun d s => ⟨d, s, rfl⟩) fun ρ' ⟨d, s, e⟩ => by rw [e]; exact k d s
/-- what is put through a target (the well may be changed by it) -/
def Tg (K : Fr) (w : WA) (g : TG) (d : PyData) (ρ ρ' : Rho) : Prop := ∀ (v : V) (σ : L2.St) (H0 : Bs) (H : Hp) (Q : L2.St → Hp → Prop), Env K w H0 H σ ρ → Tp K H v d → (∀ σ' H', Go w H H' → Env K w H0 H' σ' ρ' → Q σ' H') → g v σ H Q
def Tgs (K : Fr) (w : WA) (g : TGs) (ds : List PyData) (ρ ρ' : Rho) : Prop := ∀ (vs : List V) (σ : L2.St) (H0 : Bs) (H : Hp) (Q : L2.St → Hp → Prop), Env K w H0 H σ ρ → TpAll K H vs ds → (∀ σ' H', Go w H H' → Env K w H0 H' σ' ρ' → Q σ' H') → g vs σ H Q
theorem tg_name {i : Nat} {d : PyData} : Tg K w (gName i) d ρ (ρ.set i (some (.d d))) := fun v σ H0 H Q E t q => q _ H (Go.refl E.wok) (E.setd t i)
theorem tgs_nil : Tgs K w gNil [] ρ ρ := fun vs σ H0 H Q E t q => by cases t; exact ⟨rfl, q σ H (Go.refl E.wok) E⟩
theorem tgs_cons {ρ1 ρ2 : Rho} {gs : TGs} {d : PyData} {ds : List PyData} (h : Tg K w g d ρ ρ1) (hr : Tgs K w gs ds ρ1 ρ2) : Tgs K w (gCons g gs) (d :: ds) ρ ρ2 := fun vs σ H0 H Q E t q => by
  cases t with
  | cons t1 t2 => exact ⟨_, _, rfl, h _ σ H0 H _ E t1 fun σ' H' g1 E' => hr _ σ' H0 H' Q E' (t2.go E.wok g1) fun σ2 H2 g2 E2 => q σ2 H2 (g1.trans g2) E2⟩
theorem tg_tup {ρ1 : Rho} {n : Nat} {gs : TGs} {ds : List PyData} (h : Tgs K w gs ds ρ ρ1) (hn : ds.length = n := by rfl) : Tg K w (gTup K n gs) (.tuple ds) ρ ρ1 := fun v σ H0 H Q E t q => by
  obtain ⟨a, xs, rfl, sq, al⟩ := t.inv_tup
  exact ⟨a, xs, rfl, sq, by rw [al.length, hn], h xs σ H0 H Q E al q⟩
theorem run_asg (h : EvD K w te ρ S) (k : ∀ d, S d → ∃ ρ', Tg K w g d ρ ρ' ∧ Run K w tu ρ' R N) : Run K w (tSeq (tAsg te g) tu) ρ R N := fun D σ H0 H E r n => h σ H0 H E _ fun v d H' gg s t => by
  obtain ⟨ρ', tgt, ru⟩ := k d s
  exact tgt v σ H0 H' _ (E.go gg) t fun σ' H2 g2 E' => ru D σ' H0 H2 E' r n
theorem run_par {i j : Nat} {ta : TA} {Ss : List PyData → Prop} (h : EvA K w ta ρ Ss) (k : ∀ ds, Ss ds → ∃ d e, ds = [d, e] ∧ Run K w tu ((ρ.set i (some (.d d))).set j (some (.d e))) R N) : Run K w (tSeq (tPar i j ta) tu) ρ R N := fun D σ H0 H E r n => h σ H0 H E _ fun vs ds H' g s t => by
  obtain ⟨d, e, rfl, ru⟩ := k ds s
  obtain ⟨v, u, rfl, t1, t2⟩ := t.two
  exact ⟨v, u, rfl, ru D _ H0 H' (((E.go g).setd t1 i).setd t2 j) r n⟩
theorem run_if {Sc : Bool → Prop} (h : EvT K w tt ρ Sc) (h1 : Sc true → Run K w ts ρ R N) (h2 : Sc false → Run K w tu ρ R N) : Run K w (tIfS tt ts tu) ρ R N := fun D σ H0 H E r n => h σ H0 H E _ fun c H1 g s => by
  cases c with
  | true => exact iteT (h1 s D σ H0 H1 (E.go g) r n)
  | false => exact iteF (h2 s D σ H0 H1 (E.go g) r n)
theorem run_ifs {Sc : Bool → Prop} (h : EvT K w tt ρ Sc) (h1 : Sc true → Run K w (tSeq ts tv) ρ R N) (h2 : Sc false → Run K w (tSeq tu tv) ρ R N) : Run K w (tSeq (tIfS tt ts tu) tv) ρ R N := fun D σ H0 H E r n => h σ H0 H E _ fun c H1 g s => by
  cases c with
  | true => exact iteT (h1 s D σ H0 H1 (E.go g) r n)
  | false => exact iteF (h2 s D σ H0 H1 (E.go g) r n)
theorem run_skip (h : Run K w tu ρ R N) : Run K w (tSeq tNext tu) ρ R N := fun D σ H0 H E r n => h D σ H0 H E r n
theorem run_reta (h : EvD K w te ρ S) (k : ∀ d, S d → R d) : Run K w (tSeq (tRet te) tu) ρ R N := fun D σ H0 H E r n => h σ H0 H E _ fun v d H' g s t => r.1 v d H' ⟨E.kp.trans g.1, g.2⟩ (k d s) t
theorem run_seq2 {t1 t2 t3 : TS} (h : Run K w (tSeq t1 (tSeq t2 t3)) ρ R N) : Run K w (tSeq (tSeq t1 t2) t3) ρ R N := fun D σ H0 H E r n => h D σ H0 H E r n
theorem run_drop (h : EvD K w te ρ S) (k : N ρ) : Run K w (tDrop te) ρ R N := fun D σ H0 H E r n => h σ H0 H E _ fun v d H' g s t => n σ ρ H' (E.go g) k
/-- while, by a word of the slots that falls -/
theorem run_while (I : Nat → Rho → Prop) (m0 : Nat) (h0 : I m0 ρ) (hs : ∀ m ρ', I m ρ' → ∃ Sc, EvT K w tt ρ' Sc ∧ (Sc true → Run K w tu ρ' R (fun ρ2 => ∃ m', m' < m ∧ I m' ρ2)) ∧ (Sc false → N ρ')) : Run K w (tWhile tt tu) ρ R N := fun D σ H0 H E r n =>
  ⟨fun m σ' H' => ∃ ρ', I m ρ' ∧ Env K w H0 H' σ' ρ', ⟨m0, ρ, h0, E⟩, fun m σ' H' ⟨ρ', hi, E'⟩ => by
    obtain ⟨Sc, ht, hb, he⟩ := hs m ρ' hi
    refine ht σ' H0 H' E' _ fun c H1 g s => ?_
    cases c with
    | true =>
      refine iteT ⟨fun σ2 H2 => ∃ m' ρ2, m' < m ∧ I m' ρ2 ∧ Env K w H0 H2 σ2 ρ2, fun σ2 H2 ⟨m', ρ2, lt, hi2, E2⟩ => ⟨m', lt, ρ2, hi2, E2⟩, ?_⟩
      exact hb s _ σ' H0 H1 (E'.go g) r fun σ2 ρ2 H2 E2 ⟨m', lt, hi2⟩ => ⟨m', ρ2, lt, hi2, E2⟩
    | false => exact iteF (n σ' ρ' H1 (E'.go g) (he s))⟩
/-- for x in range(n) -/
theorem run_forR {ta : TA} {j : Nat} {n : Int} (h : EvA K w ta ρ (Is [.int n])) (hn : n ≤ 2 ^ 60) (h0n : 0 ≤ n) (I : Nat → Rho → Prop) (h0 : I 0 ρ) (hs : ∀ (i : Nat) ρ', (i : Int) < n → I i ρ' → Run K w tu (ρ'.set j (some (.d (.int (i : Int))))) R (fun ρ2 => I (i + 1) ρ2)) (hd : ∀ ρ', I n.toNat ρ' → N ρ') : Run K w (tFor (iRng1 ta) (gName j) tu) ρ R N := fun D σ H0 H E r nx =>
  h σ H0 H E _ fun vs ds H1 g s t => by
    cases (show ds = [.int n] from s)
    obtain ⟨v, rfl, tv⟩ := t.one
    rw [tv.inv_int]
    refine ⟨n, rfl, by omega, by omega, for_range (lo := 0) (n := n.toNat) (fun i σ' H' => ∃ ρ', I i ρ' ∧ Env K w H0 H' σ' ρ') ⟨ρ, h0, E.go g⟩ (fun i σ' H' hi ⟨ρ', p, E'⟩ => ?_) fun σ' H' ⟨ρ', p, E'⟩ => nx σ' ρ' H' E' (hd ρ' p)⟩
    have e0 : (0 : Int) + (i : Int) = (i : Int) := Int.zero_add _
    rw [e0]
    exact hs i ρ' (by omega) p _ (σ'.set j (some (.int (i : Int)))) H0 H' (E'.setd (.int _) j) r fun σ2 ρ2 H2 E2 q => ⟨ρ2, q, E2⟩
/-- for .. in a tuple -/
theorem run_forT {ds : List PyData} {tl : TE} (h : EvD K w tl ρ (Is (.tuple ds))) (I : Nat → Rho → Prop) (h0 : I 0 ρ) (hs : ∀ (i : Nat) d ρ', ds[i]? = some d → I i ρ' → ∃ ρ1, Tg K w g d ρ' ρ1 ∧ Run K w tu ρ1 R (fun ρ2 => I (i + 1) ρ2)) (hd : ∀ ρ', I ds.length ρ' → N ρ') : Run K w (tFor (iTup K tl) g tu) ρ R N := fun D σ H0 H E r nx =>
  h σ H0 H E _ fun v d H1 g1 s t => by
    cases (show d = .tuple ds from s)
    obtain ⟨a, xs, rfl, sq, al⟩ := t.inv_tup
    have out : ∀ {σ' : L2.St} {ρ' : Rho} {H' : Hp}, Env K w ⟨H0.h, (a, xs, ds) :: H0.pn, H0.ln, H0.tn, H0.zn⟩ H' σ' ρ' → Env K w H0 H' σ' ρ' := fun E' =>
      ⟨E'.kp, fun p hp => E'.pin p (List.mem_cons_of_mem _ hp), E'.lin, E'.wok, E'.len, E'.sl, E'.sep, E'.tq, E'.zin⟩
    refine ⟨a, rfl, ⟨xs, sq⟩, for_tup (xs := xs) (fun i σ' H' => ∃ ρ', I i ρ' ∧ Env K w ⟨H0.h, (a, xs, ds) :: H0.pn, H0.ln, H0.tn, H0.zn⟩ H' σ' ρ') ⟨ρ, h0, ?_⟩ (fun i σ' H' _ hz => ?_) (fun i x σ' H' hx hz => ?_) fun σ' H' hz => ?_⟩
    · have z := E.go g1
      exact ⟨z.kp, fun p hp => by
        rcases List.mem_cons.mp hp with rfl | hp
        · exact ⟨sq, al⟩
        · exact z.pin p hp, z.lin, z.wok, z.len, z.sl, z.sep, z.tq, z.zin⟩
    · obtain ⟨ρ', _, E'⟩ := hz
      exact (E'.pin _ List.mem_cons_self).1
    · obtain ⟨ρ', p, E'⟩ := hz
      obtain ⟨d, hd1, td⟩ := (E'.pin _ List.mem_cons_self).2.getv hx
      obtain ⟨ρ1, tgt, ru⟩ := hs i d ρ' hd1 p
      exact tgt x σ' _ H' _ E' td fun σ2 H2 _ E2 => ru _ σ2 _ H2 E2 r fun σ3 ρ3 H3 E3 q => ⟨ρ3, q, E3⟩
    · obtain ⟨ρ', p, E'⟩ := hz
      exact nx σ' ρ' H' (out E') (hd ρ' (by rw [← al.length]; exact p))
end
end Vd
namespace Vd
open PySem PySem.Spec PyProof.Rows L2
def slots (N : List Str) (ds : List PyData) : Rho := ds.map (fun d => some (.d d)) ++ List.replicate (N.length - ds.length) none
def slotsW (N : List Str) (wa : Addr) (ds : List PyData) : Rho := some (.obj wa) :: (ds.map (fun d => some (.d d)) ++ List.replicate (N.length - (ds.length + 1)) none)
section
variable {K : Fr} {H : Hp}
theorem slok_all {w : WA} {H0 : Bs} : ∀ {vs : List V} {ds : List PyData}, TpAll K H vs ds → ∀ (m : Nat) (i : Nat) (o : Option V) (s : Option Sl), (vs.map some ++ List.replicate m none)[i]? = some o → (ds.map (fun d => some (Sl.d d)) ++ List.replicate m none)[i]? = some s → SlOk K w H0 H o s
  | [], ds, h, m, i, o, s, a, b => by
    cases h
    have b' : (List.replicate m (none : Option Sl))[i]? = some s := b
    rw [List.getElem?_replicate] at b'
    split at b'
    · cases b'; trivial
    · cases b'
  | v :: vs, ds, h, m, i, o, s, a, b => by
    cases h with
    | cons h1 h2 =>
      cases i with
      | zero => cases (Option.some.inj a); cases (Option.some.inj b); exact ⟨v, rfl, h1⟩
      | succ i => exact slok_all h2 m i o s a b
theorem nown (ds : List PyData) (m i : Nat) (es : List PyData) (h : (ds.map (fun d => some (Sl.d d)) ++ List.replicate m none)[i]? = some (some (Sl.own es))) : False := by
  rw [List.getElem?_append] at h
  split at h
  · rw [List.getElem?_map] at h
    cases e : ds[i]? with
    | none => rw [e] at h; cases h
    | some d => rw [e] at h; cases h
  · rw [List.getElem?_replicate] at h
    split at h <;> cases h
theorem env_start {N : List Str} {vs : List V} {ds : List PyData} (tq : Tq K H) (h : TpAll K H vs ds) : Env K none ⟨H, [], [], [], []⟩ H (L2.start N vs) (slots N ds) := by
  refine ⟨Kp.refl _ _, fun p hp => (nomatch hp), fun p hp => (nomatch hp), Wok.none, ?_, fun i o s a b => ?_, fun i j d1 d2 o a b _ _ => (nown _ _ _ _ a).elim, tq, fun p hp => (nomatch hp)⟩
  · simp only [L2.start, slots, List.length_append, List.length_map, List.length_replicate, h.length]
  · unfold L2.start at a
    unfold slots at b
    rw [h.length] at a
    exact slok_all h _ i o s a b
theorem env_startW {N : List Str} {wa : Addr} {vs : List V} {ds : List PyData} (tq : Tq K H) (k : WOk H wa) (h : TpAll K H vs ds) : Env K (some wa) ⟨H, [], [], [], []⟩ H (L2.start N (.ref wa :: vs)) (slotsW N wa ds) := by
  have e : L2.start N (.ref wa :: vs) = some (.ref wa) :: (vs.map some ++ List.replicate (N.length - (ds.length + 1)) none) := by
    unfold L2.start
    rw [List.map_cons, List.length_cons, h.length, List.cons_append]
  rw [e]
  have nn : ∀ (i : Nat) (es : List PyData), (slotsW N wa ds)[i]? = some (some (.own es)) → False := fun i es z => by
    cases i with
    | zero => cases z
    | succ i => exact nown _ _ _ _ z
  refine ⟨Kp.refl _ _, fun p hp => (nomatch hp), fun p hp => (nomatch hp), fun a z => (by cases z; exact k), ?_, fun i o s a b => ?_, fun i j d1 d2 o a b _ _ => (nn _ _ a).elim, tq, fun p hp => (nomatch hp)⟩
  · simp only [slotsW, List.length_cons, List.length_append, List.length_map, List.length_replicate, h.length]
  · cases i with
    | zero => cases (Option.some.inj a); cases (Option.some.inj b); rfl
    | succ i => exact slok_all h _ i o s a b
end
section
variable {P : Program} {w : World} {K : Fr} {mg : Str → Option Value} {base : Heap} {x qual : Str} {st : Stmt} {f : Addr} {fd : FuncData} {N ps : List Str} {k : Nat} {α : Type} {enc : α → List PyData} {Pr : α → Prop} {S : α → PyData → Prop}
theorem fnP (F : Fun K x qual st f fd) (sc : FnScope N ps (defScope st)) (hl : ∀ a, (enc a).length = ps.length)
    (body : ∀ (cdv : Value) (A : Around) (outer : List PySem.Env) (s : Shared) (H : Hp) (E : XK) (a : α), Room k (A.deeper (envOfC qual (defScope st) s.heap.objs.size f cdv)) → Pr a →
      ∃ t, PSs (cxOf CX0 P w K mg base N qual (defScope st) f cdv A outer s H E).nox (defBody st) t ∧ Run K none t (slots N (enc a)) (S a) (fun _ => S a .none)) : FnOk P w K mg base CX0 (k + 1) f fd ps (spP K enc Pr S) := by
  refine F.ok sc (fun vs H Q E ⟨a, t, _, _⟩ => by rw [t.length, hl]) (fun cdv A outer s H vs Q E hr ⟨a, ta, pa, tq, q⟩ => ?_)
  obtain ⟨t, pt, ru⟩ := body cdv A outer s H E a hr pa
  exact ⟨t, pt, ru _ _ _ H (env_start tq ta) ⟨fun v d H' g sd td => q v d H' g.toEx sd td, fun p xs ds H' g z => (show False from z).elim⟩ fun σ' ρ' H' E' sd => q .non .none H' (Go.toEx ⟨E'.kp, E'.wok⟩) sd .non⟩
theorem fnW (F : Fun K x qual st f fd) (sc : FnScope N ps (defScope st)) (hl : ∀ a, (enc a).length + 1 = ps.length)
    (body : ∀ (cdv : Value) (A : Around) (outer : List PySem.Env) (s : Shared) (H : Hp) (E : XK) (a : α) (wa : Addr), Room k (A.deeper (envOfC qual (defScope st) s.heap.objs.size f cdv)) → Pr a →
      ∃ t, PSs (cxOf CX0 P w K mg base N qual (defScope st) f cdv A outer s H E).nox (defBody st) t ∧ Run K (some wa) t (slotsW N wa (enc a)) (S a) (fun _ => S a .none)) : FnOk P w K mg base CX0 (k + 1) f fd ps (spW K enc Pr S) := by
  refine F.ok sc (fun vs H Q E ⟨a, wa, vs', e, _, t, _, _⟩ => by rw [e, List.length_cons, t.length, hl]) (fun cdv A outer s H vs Q E hr ⟨a, wa, vs', e, kw, ta, pa, tq, q⟩ => ?_)
  subst e
  obtain ⟨t, pt, ru⟩ := body cdv A outer s H E a wa hr pa
  exact ⟨t, pt, ru _ _ _ H (env_startW tq kw ta) ⟨fun v d H' g sd td => q v d H' g sd td, fun p xs ds H' g z => (show False from z).elim⟩ fun σ' ρ' H' E' sd => q .non .none H' ⟨E'.kp, E'.wok⟩ sd .non⟩
theorem fnGW (F : Fun K x qual st f fd) (sc : FnScope N ps (defScope st)) (hl : ∀ a, (enc a).length + 1 = ps.length)
    (body : ∀ (cdv : Value) (A : Around) (outer : List PySem.Env) (s : Shared) (H : Hp) (E : XK) (a : α) (wa : Addr), A.guards = some [] → Room k (A.deeper (envOfC qual (defScope st) s.heap.objs.size f cdv)) → Pr a →
      ∃ t, PSs (cxOf CX0 P w K mg base N qual (defScope st) f cdv A outer s H E).nox (defBody st) t ∧ Run K (some wa) t (slotsW N wa (enc a)) (S a) (fun _ => S a .none)) : FnG P w K mg base (k + 1) f fd ps (spW K enc Pr S) := by
  refine Fun.okG F sc (fun vs H Q E ⟨a, wa, vs', e, _, t, _, _⟩ => by rw [e, List.length_cons, t.length, hl]) (fun cdv A outer s H vs Q E hg hr ⟨a, wa, vs', e, kw, ta, pa, tq, q⟩ => ?_)
  subst e
  obtain ⟨t, pt, ru⟩ := body cdv A outer s H E a wa hg hr pa
  exact ⟨t, pt.nox, ru _ _ _ H (env_startW tq kw ta) ⟨fun v d H' g sd td => q v d H' g sd td, fun p xs ds H' g z => (show False from z).elim⟩ fun σ' ρ' H' E' sd => q .non .none H' ⟨E'.kp, E'.wok⟩ sd .non⟩
end
end Vd
namespace Vd
open PySem PySem.Spec PyProof.Rows L2
/-! ### further expressions -/
section
variable {K : Fr} {w : WA} {ρ : Rho} {te ta tb tc : TE} {S : PyData → Prop}
/-- what a value's class is -/
def tyD : PyData → Value
  | .none => .type "NoneType"
  | .bool _ => .type "bool"
  | .int _ => .type "int"
  | .str _ => .type "str"
  | .list _ => .type "list"
  | .tuple _ => .type "tuple"
  | .dict _ => .type "dict"
def isLst : PyData → Bool
  | .list _ => true
  | _ => false
theorem Tp.ty {H : Hp} {v : V} : ∀ {d : PyData}, isLst d = false → Tp K H v d → TyX K H v (tyD d)
  | .none, _, h => by cases h; exact .base .non
  | .bool b, _, h => by cases h; exact .base (.bl b)
  | .int i, _, h => by cases h; exact .base (.int i)
  | .str x, _, h => by cases h; exact .base (.str x)
  | .list _, n, h => by cases n
  | .dict _, _, h => by
    cases h with
    | dic hs hd => exact .fDict hs
  | .tuple ds, _, h => by
    cases h with
    | tup hs ha =>
      rcases hs with (hs | ⟨o, hs⟩) | ⟨o, its, n, lk, c, _⟩
      · exact .base (.tup hs)
      · exact .fTuple hs
      · exact .kTuple lk c
/-- isinstance(e, a built-in type) -/
theorem ev_isiB {n : String} {d : PyData} {b : Bool} (h : EvD K w te ρ (Is d)) (hk : PySem.W.kitOne K (tyD d) (.type n) = some b) (hl : isLst d = false := by rfl) : EvD K w (tCB (rIsi K) (tCons te (tCons (tC (.ty n)) tNil))) ρ (Is (.bool b)) := fun σ H0 H E Q q =>
  h σ H0 H E _ fun v d' H1 g s t => by
    cases (show d' = d from s)
    exact ⟨v, .ty n, tyD d, .type n, b, rfl, .ty n, t.ty hl, hk, q _ _ H1 g rfl (.bl b)⟩
theorem ev_gcd {i j : Int} (ha : EvD K w ta ρ (Is (.int i))) (hb : EvD K w tb ρ (Is (.int j))) : EvD K w (tCB rGcd (tCons ta (tCons tb tNil))) ρ (Is (.int ((Nat.gcd i.natAbs j.natAbs : Nat) : Int))) :=
  ev_cb (ea_cons ha (ea_cons hb ea_nil)) fun ds e vs H k t Q q => by
    cases (show ds = _ from e)
    obtain ⟨v, u, rfl, t1, t2⟩ := t.two
    rw [t1.inv_int, t2.inv_int]
    exact ⟨i, j, rfl, q _ _ H (Go.refl k) rfl (.int _)⟩
theorem ev_abs {i : Int} (ha : EvD K w ta ρ (Is (.int i))) : EvD K w (tCB (fun xs H Q => ∃ i, xs = [.int i] ∧ Q (.int (if i < 0 then -i else i)) H) (tCons ta tNil)) ρ (Is (.int (if i < 0 then -i else i))) :=
  ev_cb (ea_cons ha ea_nil) fun ds e vs H k t Q q => by
    cases (show ds = _ from e)
    obtain ⟨v, rfl, t1⟩ := t.one
    rw [t1.inv_int]
    exact ⟨i, rfl, q _ _ H (Go.refl k) rfl (.int _)⟩
theorem ev_int1 {i : Int} (ha : EvD K w ta ρ (Is (.int i))) : EvD K w (tCB (fun xs H Q => (∃ i, xs = [.int i] ∧ Q (.int i) H) ∨ ∃ k, xs = [.bl k] ∧ Q (.int (if k then 1 else 0)) H) (tCons ta tNil)) ρ (Is (.int i)) :=
  ev_cb (ea_cons ha ea_nil) fun ds e vs H k t Q q => by
    cases (show ds = _ from e)
    obtain ⟨v, rfl, t1⟩ := t.one
    rw [t1.inv_int]
    exact .inl ⟨i, rfl, q _ _ H (Go.refl k) rfl (.int _)⟩
theorem ev_int1P {R : Int → Prop} (ha : EvD K w ta ρ (IntP R)) : EvD K w (tCB (fun xs H Q => (∃ i, xs = [.int i] ∧ Q (.int i) H) ∨ ∃ k, xs = [.bl k] ∧ Q (.int (if k then 1 else 0)) H) (tCons ta tNil)) ρ (IntP R) :=
  ev_cb (ea_consP ha ea_nil) fun ds e vs H k t Q q => by
    obtain ⟨d, ds', rfl, ⟨i, rfl, hi⟩, e2⟩ := e
    cases (show ds' = _ from e2)
    obtain ⟨v, rfl, t1⟩ := t.one
    rw [t1.inv_int]
    exact .inl ⟨i, rfl, q _ _ H (Go.refl k) ⟨i, rfl, hi⟩ (.int _)⟩
theorem ev_max2 {i j : Int} (ha : EvD K w ta ρ (Is (.int i))) (hb : EvD K w tb ρ (Is (.int j))) : EvD K w (tCB (fun xs H Q => ∃ i j, xs = [.int i, .int j] ∧ Q (.int (if j > i then j else i)) H) (tCons ta (tCons tb tNil))) ρ (Is (.int (if j > i then j else i))) :=
  ev_cb (ea_cons ha (ea_cons hb ea_nil)) fun ds e vs H k t Q q => by
    cases (show ds = _ from e)
    obtain ⟨v, u, rfl, t1, t2⟩ := t.two
    rw [t1.inv_int, t2.inv_int]
    exact ⟨i, j, rfl, q _ _ H (Go.refl k) rfl (.int _)⟩
/-- len of a tuple -/
theorem ev_lenT {ds : List PyData} (ha : EvD K w ta ρ (Is (.tuple ds))) : EvD K w (tCB (fun xs H Q => ∃ p ys, xs = [.ref p] ∧ (SqL K H p ys ∨ SqT K H p ys) ∧ Q (.int ys.length) H) (tCons ta tNil)) ρ (Is (.int (ds.length : Int))) :=
  ev_cb (ea_cons ha ea_nil) fun es e vs H k t Q q => by
    cases (show es = _ from e)
    obtain ⟨v, rfl, t1⟩ := t.one
    obtain ⟨p, xs, rfl, sq, al⟩ := t1.inv_tup
    refine ⟨p, xs, rfl, .inr sq, ?_⟩
    rw [al.length]
    exact q _ _ H (Go.refl k) rfl (.int _)
theorem ev_reprL {Ss : List PyData → Prop} (ha : EvL K w ta ρ Ss) (hs : ∀ ds, Ss ds → (PyData.list ds).showable = true ∧ (PyData.list ds).hasDict = false ∧ (PyData.list ds).depth ≤ 30 ∧ (PyData.list ds).shown.length ≤ sizeLine) :
    EvD K w (tCB (rRepr K) (tCons ta tNil)) ρ (fun d => ∃ ds, Ss ds ∧ d = .str (PyData.list ds).shown) := fun σ H0 H E Q q =>
  ha σ H0 H E _ fun p xs ds H1 g s n h t => by
    obtain ⟨a, b, c, e⟩ := hs ds s
    exact ⟨p, .list ds, rfl, .lst (.inl (.inl h)) (t.dp (nd_L b)), a, b, c, e, q _ _ H1 g ⟨ds, s, rfl⟩ (.str _)⟩
end
/-! ### constants of the module -/
theorem kd_int {K : Fr} {i : Int} : KD K (.int i) (.int i) := fun _ => .int i
inductive KDs (K : Fr) : List V → List PyData → Prop
  | nil : KDs K [] []
  | cons {v : V} {d : PyData} {vs : List V} {ds : List PyData} : KD K v d → KDs K vs ds → KDs K (v :: vs) (d :: ds)
theorem KDs.tp {K : Fr} {H : Hp} : ∀ {vs : List V} {ds : List PyData}, KDs K vs ds → TpAll K H vs ds
  | _, _, .nil => .nil
  | _, _, .cons h r => .cons (h H) r.tp
theorem kd_tup {K : Fr} {a : Addr} {o : Obj} {its : Array Value} {n : Nat} {vs : List V} {ds : List PyData} (lk : K.lookup a = some o) (hc : o.cls = .type "tuple" ∧ o.data = .seq its n) (rv : Vals vs its.toList) (hz : its.size ≤ 1000) (h : KDs K vs ds) : KD K (.ref a) (.tuple ds) := fun H =>
  .tup (.inr ⟨o, its, n, lk, hc.1, hc.2, Nat.le_trans hz (by decide), rv⟩) h.tp
end Vd
namespace Vd
open PySem PySem.Spec PyProof.Rows L2
section
variable {K : Fr} {w : WA} {ρ : Rho} {te ta tb : TE} {tt : TT} {S : PyData → Prop} {R : Rt} {N N1 : Rho → Prop} {ts tu tv : TS} {g : TG} {d : PyData} {b : Bool}
theorem run_setD {i : Nat} (h : EvD K w te ρ (Is d)) (k : Run K w tu (ρ.set i (some (.d d))) R N) : Run K w (tSeq (tAsg te (gName i)) tu) ρ R N := run_sets h fun d' e => by
  cases (show d' = d from e); exact k
theorem run_retD (h : EvD K w te ρ (Is d)) (k : R d) : Run K w (tRet te) ρ R N := run_ret h fun d' e => by
  cases (show d' = d from e); exact k
theorem run_asgD {ρ' : Rho} (h : EvD K w te ρ (Is d)) (t : Tg K w g d ρ ρ') (k : Run K w tu ρ' R N) : Run K w (tSeq (tAsg te g) tu) ρ R N := run_asg h fun d' e => by
  cases (show d' = d from e); exact ⟨ρ', t, k⟩
theorem run_ifsD (h : EvT K w tt ρ (Is b)) (h1 : b = true → Run K w (tSeq ts tv) ρ R N) (h2 : b = false → Run K w (tSeq tu tv) ρ R N) : Run K w (tSeq (tIfS tt ts tu) tv) ρ R N := run_ifs h (fun e => h1 e.symm) fun e => h2 e.symm
theorem run_ifD (h : EvT K w tt ρ (Is b)) (h1 : b = true → Run K w ts ρ R N) (h2 : b = false → Run K w tu ρ R N) : Run K w (tIfS tt ts tu) ρ R N := run_if h (fun e => h1 e.symm) fun e => h2 e.symm
theorem run_dropD (h : EvD K w te ρ S) (k : Run K w tu ρ R N) : Run K w (tSeq (tDrop te) tu) ρ R N := run_seq (N1 := fun ρ' => ρ' = ρ) (run_drop h rfl) fun ρ' e => by rw [e]; exact k
theorem run_parD {i j : Nat} {ta : TA} {d e : PyData} (h : EvA K w ta ρ (Is [d, e])) (k : Run K w tu ((ρ.set i (some (.d d))).set j (some (.d e))) R N) : Run K w (tSeq (tPar i j ta) tu) ρ R N := run_par h fun ds z => ⟨d, e, z, k⟩
theorem ev_ifD {t : TT} (h : EvT K w t ρ (Is b)) (h1 : b = true → EvD K w ta ρ S) (h2 : b = false → EvD K w tb ρ S) : EvD K w (tIf t ta tb) ρ S := ev_if h (fun e => h1 e.symm) fun e => h2 e.symm
end
end Vd
namespace Vd
open PySem PySem.Spec PyProof.Rows L2
section
variable {K : Fr} {w : WA} {ρ : Rho} {te : TE}
theorem ev_isiI {n : String} {i : Int} (b : Bool) (h : EvD K w te ρ (Is (.int i))) (hk : kitB "int" n = some b := by decide +kernel) : EvD K w (tCB (rIsi K) (tCons te (tCons (tC (.ty n)) tNil))) ρ (Is (.bool b)) := ev_isiB h hk
theorem ev_isiT {n : String} {i : List PyData} (b : Bool) (h : EvD K w te ρ (Is (.tuple i))) (hk : kitB "tuple" n = some b := by decide +kernel) : EvD K w (tCB (rIsi K) (tCons te (tCons (tC (.ty n)) tNil))) ρ (Is (.bool b)) := ev_isiB h hk
end
end Vd
namespace Vd
open PySem PySem.Spec PyProof.Rows L2
section
variable {K : Fr} {w : WA} {ρ : Rho} {te ta tb : TE}
theorem ev_odd {n : Nat} (ha : EvD K w ta ρ (Is (.int (n : Int)))) (hb : EvD K w tb ρ (Is (.int 1))) : EvD K w (tOp (fun x y H Q => ∃ n : Nat, x = .int (n : Int) ∧ y = .int 1 ∧ Q (.int ((n % 2 : Nat) : Int)) H) ta tb) ρ (Is (.int ((n % 2 : Nat) : Int))) :=
  ev_op ha hb fun a b ea eb x y H k tx ty Q q => by
    rw [ea] at tx; rw [eb] at ty
    exact ⟨n, tx.inv_int, ty.inv_int, q _ _ H (Go.refl k) rfl (.int _)⟩
theorem et_truI {i : Int} (h : EvD K w te ρ (Is (.int i))) : EvT K w (fun σ H Q => te σ H fun x H' => ∃ k, TruV K x H' k ∧ Q k H') ρ (Is (i != 0)) := fun σ H0 H E Q q => h σ H0 H E _ fun v d H1 g s t => by
  cases (show d = _ from s)
  rw [t.inv_int]
  exact ⟨_, rfl, q _ H1 g rfl⟩
end
end Vd
namespace Vd
open PySem PySem.Spec PyProof.Rows L2
section
variable {K : Fr} {w : WA} {ρ : Rho} {te ta tb : TE} {S : PyData → Prop} {R : Rt} {N : Rho → Prop} {tu : TS} {wa : Addr}
theorem run_par1 {i j : Nat} {ta : TA} {d e : PyData} (h : EvA K w ta ρ (Is [d, e])) (k : N ((ρ.set i (some (.d d))).set j (some (.d e)))) : Run K w (tPar i j ta) ρ R N := fun D σ H0 H E r n => h σ H0 H E _ fun vs ds H' g s t => by
  cases (show ds = _ from s)
  obtain ⟨v, u, rfl, t1, t2⟩ := t.two
  exact ⟨v, u, rfl, n _ _ H' (((E.go g).setd t1 i).setd t2 j) k⟩
/-- the well is read -/
theorem ev_wget {i : Nat} {j : Int} (h : ρ[i]? = some (some (.obj wa))) (hj : j = 0 ∨ j = 1 ∨ j = 2) : EvD K (some wa) (tOp (rIxL K) (tVar i) (tC (.int j))) ρ (IntP fun _ => True) := fun σ H0 H E Q q => by
  obtain ⟨x, y, z, e⟩ := E.wok wa rfl
  refine ⟨.ref wa, E.go_ h, wa, [.int x, .int y, .int z], j, ?_⟩
  rcases hj with rfl | rfl | rfl
  · exact ⟨.int x, rfl, rfl, .inl (.inl e), rfl, q _ _ H (Go.refl E.wok) ⟨x, rfl, trivial⟩ (.int x)⟩
  · exact ⟨.int y, rfl, rfl, .inl (.inl e), rfl, q _ _ H (Go.refl E.wok) ⟨y, rfl, trivial⟩ (.int y)⟩
  · exact ⟨.int z, rfl, rfl, .inl (.inl e), rfl, q _ _ H (Go.refl E.wok) ⟨z, rfl, trivial⟩ (.int z)⟩
theorem Go.wset {H : Hp} {xs : List V} (k : Wok (some wa) H) (h : ∃ x y z : Int, xs = [.int x, .int y, .int z]) : Go (some wa) H (upd H wa (.lst xs)) := ⟨(k wa rfl).elim fun _ q => q.elim fun _ q => q.elim fun _ q => Kp.well q, fun a e => by
  cases e
  obtain ⟨x, y, z, rfl⟩ := h
  exact ⟨x, y, z, upd_same⟩⟩
/-- the well is written -/
theorem tg_wset {i : Nat} {j : Int} {k : Int} (h : ρ[i]? = some (some (.obj wa))) (hj : j = 0 ∨ j = 1 ∨ j = 2) : Tg K (some wa) (gSub (tVar i) (tC (.int j)) rSetL) (.int k) ρ ρ := fun v σ H0 H Q E t q => by
  obtain ⟨x, y, z, e⟩ := E.wok wa rfl
  rw [t.inv_int]
  have fin : ∀ xs : List V, (∃ x y z : Int, xs = [.int x, .int y, .int z]) → Q σ (upd H wa (.lst xs)) := fun xs hx => q σ _ (Go.wset E.wok hx) (E.go (Go.wset E.wok hx))
  rcases hj with rfl | rfl | rfl
  · exact ⟨.ref wa, E.go_ h, wa, _, 0, 0, rfl, rfl, e, rfl, fin _ ⟨k, y, z, rfl⟩⟩
  · exact ⟨.ref wa, E.go_ h, wa, _, 1, 1, rfl, rfl, e, rfl, fin _ ⟨x, k, z, rfl⟩⟩
  · exact ⟨.ref wa, E.go_ h, wa, _, 2, 2, rfl, rfl, e, rfl, fin _ ⟨x, y, k, rfl⟩⟩
theorem cdivp {i j : Int} (hj : 0 < j ∧ j < 10000000000000) : CDivP i j := ⟨hj.1, PyProof.noPylong_of_log2 (Nat.lt_of_lt_of_le (PySem.Flt.log2_lt_of (k := 44) (by decide) (by omega)) (by decide))⟩
theorem rd_divmod {i j : Int} (hj : 0 < j ∧ j < 10000000000000) : RdA K w (fun xs H Q => ∃ i j, xs = [.int i, .int j] ∧ CDivP i j ∧ ∀ p, H p = none → Q (.ref p) (upd H p (.tup [.int (i / j), .int (i % j)]))) [.int i, .int j] (Is (.tuple [.int (i / j), .int (i % j)])) := fun vs H k t Q q => by
  obtain ⟨v, u, rfl, t1, t2⟩ := t.two
  rw [t1.inv_int, t2.inv_int]
  exact ⟨i, j, rfl, cdivp hj, fun p hp => q _ _ _ (Go.new k hp) rfl (.tup (.inl (.inl upd_same)) (.cons (.int _) (.cons (.int _) .nil)))⟩
end
end Vd
namespace Vd
open PySem PySem.Spec PyProof.Rows L2
/-! ### what may be shown by repr -/
structure Rp (D W : Nat) (d : PyData) : Prop where
  s : d.showable = true
  n : d.hasDict = false
  dp : d.depth ≤ D
  wt : d.shown.length ≤ W
structure RpA (D W : Nat) (d : List PyData) : Prop where
  s : PyData.showableAll d = true
  n : PyData.hasDictAll d = false
  dp : PyData.depthAll d ≤ D
  wt : ((PyData.shownAll d).map (·.length)).sum + 2 * d.length ≤ W
theorem rp_int {i : Int} {D : Nat} (h : i.natAbs < 2 ^ 1900) : Rp D 1921 (.int i) := by
  have lg : i.natAbs.log2 < 1920 := Nat.lt_of_lt_of_le (PySem.Flt.log2_lt_of (by decide) h) (by decide)
  exact ⟨decide_eq_true lg, rfl, Nat.zero_le _, PyProof.Rows.int_text_len_1921 lg⟩
theorem rp_bl {D : Nat} (b : Bool) : Rp D 5 (.bool b) := ⟨rfl, rfl, Nat.zero_le _, by cases b <;> decide⟩
theorem rpa_nil {D : Nat} : RpA D 0 [] := ⟨rfl, rfl, Nat.zero_le _, by decide⟩
theorem rpa_cons {D W W' : Nat} {d : PyData} {ds : List PyData} (h : Rp D W d) (k : RpA D W' ds) : RpA D (W + 2 + W') (d :: ds) := by
  refine ⟨?_, ?_, ?_, ?_⟩
  · rw [PyData.showableAll, h.s, k.s]; rfl
  · rw [PyData.hasDictAll, h.n, k.n]; rfl
  · rw [PyData.depthAll]; have := h.dp; have := k.dp; omega
  · rw [PyData.shownAll, List.map_cons, List.sum_cons, List.length_cons]; have := h.wt; have := k.wt; omega
theorem rp_lst {D W : Nat} {ds : List PyData} (h : RpA D W ds) : Rp (D + 1) (W + 3) (.list ds) := by
  refine ⟨?_, ?_, ?_, ?_⟩
  · rw [PyData.showable]; exact h.s
  · rw [PyData.hasDict]; exact h.n
  · rw [PyData.depth]; have := h.dp; omega
  · rw [PyData.shown]; have := listText_len_le (PyData.shownAll ds); rw [PyData.shownAll_length] at this; have := h.wt; omega
theorem Rp.mono {D W D' W' : Nat} {d : PyData} (h : Rp D W d) (a : D ≤ D') (b : W ≤ W') : Rp D' W' d := ⟨h.s, h.n, Nat.le_trans h.dp a, Nat.le_trans h.wt b⟩
theorem Rp.fits {D W : Nat} {d : PyData} (h : Rp D W d) (hW : W ≤ 10000000) : d.shown.length ≤ sizeLine := by
  have b := h.wt
  rw [sizeLine_eq]
  omega
section
variable {K : Fr} {w : WA} {ρ : Rho} {te ta tb : TE}
theorem ev_reprLD {ds : List PyData} {D W : Nat} (ha : EvL K w ta ρ (Is ds)) (h : Rp D W (.list ds)) (hD : D ≤ 30 := by decide) (hW : W ≤ 10000000 := by decide) : EvD K w (tCB (rRepr K) (tCons ta tNil)) ρ (Is (.str (PyData.list ds).shown)) :=
  EvD.mono (ev_reprL ha fun es e => by rw [show es = ds from e]; exact ⟨h.s, h.n, Nat.le_trans h.dp hD, h.fits hW⟩) fun d ⟨es, e, e2⟩ => by rw [show es = ds from e] at e2; exact e2
theorem el_lstD {ta : TA} {ds : List PyData} (h : EvA K w ta ρ (Is ds)) (hl : ds.length ≤ 100000 := by exact Nat.le_of_ble_eq_true rfl) : EvL K w (tLst ta) ρ (Is ds) := el_lst h fun es e => by rw [show es = ds from e]; exact hl
theorem el_repD {ds : List PyData} {k : Int} (ha : EvL K w ta ρ (Is ds)) (hb : EvD K w tb ρ (Is (.int k))) (hk : 0 ≤ k ∧ k ≤ 100 := by decide) (hl : ds.length ≤ 100 := by exact Nat.le_of_ble_eq_true rfl) : EvL K w (tOp rRep ta tb) ρ (Is (List.replicate k.toNat ds).flatten) :=
  EvL.mono (el_rep ha hb hk fun es e => by rw [show es = ds from e]; exact hl) fun l ⟨es, e, e2⟩ => by rw [show es = ds from e] at e2; exact e2
/-- texts compared -/
theorem ev_neS {a b : Str} (ha : EvD K w ta ρ (Is (.str a))) (hb : EvD K w tb ρ (Is (.str b))) : EvD K w (tOp rNe ta tb) ρ (Is (.bool (!decide (a = b)))) := ev_op ha hb fun a' b' ea eb x y H k tx ty Q q => by
  rw [ea] at tx; rw [eb] at ty
  rw [tx.inv_str, ty.inv_str]
  refine ⟨rfl, q _ _ H (Go.refl k) ?_ (.bl _)⟩
  show PyData.bool _ = PyData.bool _
  congr 2
  exact decide_eq_decide.mpr ⟨fun z => V.str.inj z, fun z => by rw [z]⟩
theorem ev_eqS {a b : Str} (ha : EvD K w ta ρ (Is (.str a))) (hb : EvD K w tb ρ (Is (.str b))) : EvD K w (tOp rEq ta tb) ρ (Is (.bool (decide (a = b)))) := ev_op ha hb fun a' b' ea eb x y H k tx ty Q q => by
  rw [ea] at tx; rw [eb] at ty
  rw [tx.inv_str, ty.inv_str]
  refine ⟨rfl, q _ _ H (Go.refl k) ?_ (.bl _)⟩
  show PyData.bool _ = PyData.bool _
  congr 1
  exact decide_eq_decide.mpr ⟨fun z => V.str.inj z, fun z => by rw [z]⟩
end
end Vd
namespace Vd
open PySem PySem.Spec PyProof.Rows L2
/-- return all([.. for .. in range(m)]), each True -/
theorem ret_all {K : Fr} {te : TE} {j : Nat} {vs : List Nat} {σ : L2.St} {H : Hp} {D : Ends} {m : Int} (n : Nat) (hm : m = (n : Int)) (hn : n ≤ 1000) (hw : ∀ x, wipe ((wipe σ vs).set j (some x)) vs = wipe σ vs)
    (ht : ∀ (i : Nat) (H1 : Hp), i < n → Kx H H1 → ∀ Q : VK, (∀ H2, Kx H1 H2 → Q (.bl true) H2) → te ((wipe σ vs).set j (some (.int ((0 : Int) + (i : Int))))) H1 Q) (hd : ∀ H', D.rt (.bl true) H') :
    tRet (tCB (rAll K) (tCons (tLc (iRng1 (tCons (tC (.int m)) tNil)) (gName j) tYes te vs) tNil)) D σ H := by
  subst hm
  refine ⟨(n : Int), rfl, by omega, by omega, fun Dl hD => ?_⟩
  refine lc_range (g := gName j) (tt := tYes) (te := te) (vs := vs) (σ := σ) (lo := 0) (n := ((n : Int)).toNat) (Qd := fun H' => rAll K [V.ref Dl] H' D.rt) (fun i H' => Kx H H' ∧ H' Dl = some (.lst (List.replicate i (.bl true)))) ⟨Kp.new hD, upd_same⟩ (fun i H' hi hP => ?_) fun H' hP => ?_
  · obtain ⟨x, e⟩ := hP
    refine ⟨hw _, ?_⟩
    refine iteT (B := Kx H H' ∧ H' Dl = some (.lst (List.replicate (i + 1) (.bl true)))) (ht i H' (by omega) x _ fun H2 x2 => ?_)
    have e2 := x2 Dl _ (fun z => nomatch z) e
    refine ⟨_, e2, Evl.sz_lt (by rw [List.length_replicate]; omega), (x.trans x2).chg hD (lst_no e2), ?_⟩
    · rw [upd_same, List.replicate_succ']
  · obtain ⟨x, e⟩ := hP
    refine ⟨Dl, List.replicate ((n : Int)).toNat true, rfl, .inl (.inl (by rw [e, List.map_replicate])), ?_⟩
    rw [show (List.replicate ((n : Int)).toNat true).all id = true by rw [List.all_eq_true]; intro b hb; exact List.eq_of_mem_replicate hb]
    exact hd H'
end Vd
set_option Elab.async false
set_option linter.all false
set_option maxRecDepth 100000
set_option maxHeartbeats 4000000
/-! lists: as arguments (read only), of one's own, handed back; calls with such -/
namespace Vd
open PySem PySem.Spec PyProof.Rows L2
/-- an argument: data, or a list of data that is only read -/
inductive Ar where
  | d (x : PyData)
  | l (ds : List PyData)
  | e (φ : Hp → V → Prop)
def ArOk (K : Fr) (w : WA) (H : Hp) : V → Ar → Prop
  | v, .d x => Tp K H v x
  | v, .l ds => ∃ p xs, v = .ref p ∧ SqL K H p xs ∧ TpAll K H xs ds ∧ w ≠ some p
  | v, .e φ => φ H v ∧ ExOk w fun _ => φ
inductive ArAll (K : Fr) (w : WA) (H : Hp) : List V → List Ar → Prop
  | nil : ArAll K w H [] []
  | cons {v : V} {a : Ar} {vs : List V} {as : List Ar} : ArOk K w H v a → ArAll K w H vs as → ArAll K w H (v :: vs) (a :: as)
section
variable {K : Fr} {w : WA} {H H' : Hp}
theorem ArOk.go (k : Wok w H) (g : Go w H H') {v : V} {a : Ar} (h : ArOk K w H v a) : ArOk K w H' v a := by
  cases a with
  | d x => exact Tp.go k g _ _ h
  | l ds => obtain ⟨p, xs, e, s, t, n⟩ := h; exact ⟨p, xs, e, sqL_kp g.1 n s, t.go k g, n⟩
  | e φ => obtain ⟨z, x⟩ := h; exact ⟨x.go (B := H) k g z, x⟩
theorem ArAll.length {vs : List V} {as : List Ar} (h : ArAll K w H vs as) : vs.length = as.length := by
  induction h with
  | nil => rfl
  | cons _ _ ih => rw [List.length_cons, List.length_cons, ih]
theorem ArAll.go (k : Wok w H) (g : Go w H H') {vs : List V} {as : List Ar} (h : ArAll K w H vs as) : ArAll K w H' vs as := by
  induction h with
  | nil => exact .nil
  | cons a _ ih => exact .cons (a.go k g) ih
end
def slotOf : Ar → Option Sl
  | .d x => some (.d x)
  | .l ds => some (.ro ds)
  | .e φ => some (.ex fun _ => φ)
def slotsA (N : List Str) (as : List Ar) : Rho := as.map slotOf ++ List.replicate (N.length - as.length) none
section
variable {K : Fr} {w : WA} {H : Hp}
theorem ar_pins : ∀ {vs : List V} {as : List Ar}, ArAll K w H vs as → ∃ ln : List (Addr × List V × List PyData), (∀ p : Addr × List V × List PyData, p ∈ ln → SqL K H p.1 p.2.1 ∧ TpAll K H p.2.1 p.2.2 ∧ w ≠ some p.1) ∧
    ∀ (m i : Nat) (o : Option V) (s : Option Sl) (more : List (Addr × List V × List PyData)), (vs.map some ++ List.replicate m none)[i]? = some o → (as.map slotOf ++ List.replicate m none)[i]? = some s → SlOk K w ⟨H, [], more ++ ln, [], []⟩ H o s
  | _, _, .nil => ⟨[], fun p h => (nomatch h), fun m i o s more a b => by
      have b' : (List.replicate m (none : Option Sl))[i]? = some s := b
      rw [List.getElem?_replicate] at b'
      split at b'
      · cases b'; trivial
      · cases b'⟩
  | _, _, .cons (v := v) (a := x) (vs := vs) (as := as) h r => by
    obtain ⟨ln, h1, h2⟩ := ar_pins r
    cases x with
    | d x =>
      refine ⟨ln, h1, fun m i o s more a b => ?_⟩
      cases i with
      | zero => cases (Option.some.inj a); cases (Option.some.inj b); exact ⟨v, rfl, h⟩
      | succ i => exact h2 m i o s more a b
    | e φ =>
      refine ⟨ln, h1, fun m i o s more a b => ?_⟩
      cases i with
      | zero => cases (Option.some.inj a); cases (Option.some.inj b); exact ⟨v, rfl, h.1, h.2⟩
      | succ i => exact h2 m i o s more a b
    | l ds =>
      obtain ⟨p, xs, e, s, t, n⟩ := h
      refine ⟨(p, xs, ds) :: ln, fun q hq => ?_, fun m i o s more a b => ?_⟩
      · rcases List.mem_cons.mp hq with rfl | hq
        · exact ⟨s, t, n⟩
        · exact h1 q hq
      · cases i with
        | zero => cases (Option.some.inj a); cases (Option.some.inj b); exact ⟨p, xs, by rw [e], List.mem_append_right _ List.mem_cons_self⟩
        | succ i =>
          have z := h2 m i o s (more ++ [(p, xs, ds)]) a b
          rw [List.append_assoc] at z
          exact z
theorem nownA (as : List Ar) (m i : Nat) (es : List PyData) (h : (as.map slotOf ++ List.replicate m none)[i]? = some (some (Sl.own es))) : False := by
  rw [List.getElem?_append] at h
  split at h
  · rw [List.getElem?_map] at h
    cases e : as[i]? with
    | none => rw [e] at h; cases h
    | some d => rw [e] at h; cases d <;> cases h
  · rw [List.getElem?_replicate] at h
    split at h <;> cases h
theorem env_startA {N : List Str} {vs : List V} {as : List Ar} (tq : Tq K H) (k : Wok w H) (h : ArAll K w H vs as) : ∃ B : Bs, B.h = H ∧ Env K w B H (L2.start N vs) (slotsA N as) := by
  obtain ⟨ln, h1, h2⟩ := ar_pins h
  refine ⟨⟨H, [], ln, [], []⟩, rfl, Kp.refl _ _, fun p hp => (nomatch hp), fun p hp => h1 p (by simpa using hp), k, ?_, fun i o s a b => ?_, fun i j d1 d2 o a b _ _ => (nownA _ _ _ _ a).elim, tq, fun p hp => (nomatch hp)⟩
  · simp only [L2.start, slotsA, List.length_append, List.length_map, List.length_replicate, h.length]
  · unfold L2.start at a
    unfold slotsA at b
    rw [h.length] at a
    exact h2 _ i o s [] a b
end
def rD (S : PyData → Prop) : Rt := ⟨S, fun _ => False⟩
def rL (S : List PyData → Prop) : Rt := ⟨fun _ => False, S⟩
/-- a promise: data or read lists in, data or a new list out -/
def spG {α : Type} (K : Fr) (enc : α → List Ar) (P : α → Prop) (S : α → Rt) : Sp := fun vs H Q _ =>
  ∃ (a : α) (w : WA), Wok w H ∧ ArAll K w H vs (enc a) ∧ P a ∧ Tq K H ∧ (∀ v d H', Go w H H' → (S a).d d → Tp K H' v d → Q v H') ∧
    (∀ p xs ds H', Go w H H' → (S a).l ds → H p = none → H' p = some (.lst xs) → TpAll K H' xs ds → Q (.ref p) H')
section
variable {P : Program} {w : World} {K : Fr} {mg : Str → Option Value} {base : Heap} {x qual : Str} {st : Stmt} {f : Addr} {fd : FuncData} {N ps : List Str} {k : Nat} {α : Type} {enc : α → List Ar} {Pr : α → Prop} {S : α → Rt}
theorem fnX (F : Fun K x qual st f fd) (sc : FnScope N ps (defScope st)) (hl : ∀ a, (enc a).length = ps.length)
    (body : ∀ (cdv : Value) (A : Around) (outer : List PySem.Env) (s : Shared) (H : Hp) (E : XK) (a : α) (wl : WA), Room k (A.deeper (envOfC qual (defScope st) s.heap.objs.size f cdv)) → Pr a →
      ∃ t, PSs (cxOf CX0 P w K mg base N qual (defScope st) f cdv A outer s H E).nox (defBody st) t ∧ Run K wl t (slotsA N (enc a)) (S a) (fun _ => (S a).d .none)) : FnOk P w K mg base CX0 (k + 1) f fd ps (spG K enc Pr S) := by
  refine F.ok sc (fun vs H Q E ⟨a, wl, _, t, _⟩ => by rw [t.length, hl]) (fun cdv A outer s H vs Q E hr ⟨a, wl, kw, ta, pa, tq, q1, q2⟩ => ?_)
  obtain ⟨t, pt, ru⟩ := body cdv A outer s H E a wl hr pa
  obtain ⟨B, e, En⟩ := env_startA (N := N) tq kw ta
  refine ⟨t, pt, ru _ _ B H En ⟨fun v d H' g sd td => q1 v d H' (by rw [e] at g; exact g) sd td, fun p xs ds H' g sd h0 hp td => q2 p xs ds H' (by rw [e] at g; exact g) sd (by rw [e] at h0; exact h0) hp td⟩ fun σ' ρ' H' E' sd => q1 .non .none H' ⟨by have z := E'.kp; rw [e] at z; exact z, E'.wok⟩ sd .non⟩
end
/-! ### arguments -/
def EvR (K : Fr) (w : WA) (ta : TA) (ρ : Rho) (S : List Ar → Prop) : Prop :=
  ∀ (σ : L2.St) (H0 : Bs) (H : Hp), Env K w H0 H σ ρ → ∀ Q : List V → Hp → Prop, (∀ vs as H', Go w H H' → S as → ArAll K w H' vs as → Q vs H') → ta σ H Q
section
variable {K : Fr} {w : WA} {ρ : Rho} {te ta tb : TE} {tr : TA} {d : PyData} {ds : List PyData} {as : List Ar} {S : PyData → Prop} {Ss : List Ar → Prop}
theorem nw_of {H H' : Hp} {p : Addr} (k : Wok w H) (h : H p = none) : w ≠ some p := fun z => by
  obtain ⟨_, _, _, y⟩ := k p z
  rw [h] at y; cases y
theorem er_nil : EvR K w tNil ρ (Is []) := fun σ H0 H E Q q => q [] [] H (Go.refl E.wok) rfl .nil
theorem er_dP (h : EvD K w te ρ S) (r : EvR K w tr ρ Ss) : EvR K w (tCons te tr) ρ (fun l => ∃ d as, l = .d d :: as ∧ S d ∧ Ss as) := fun σ H0 H E Q q =>
  h σ H0 H E _ fun v d H1 g1 s1 t1 => r σ H0 H1 (E.go g1) _ fun vs as H2 g2 s2 t2 => q _ _ H2 (g1.trans g2) ⟨d, as, rfl, s1, s2⟩ (.cons (Tp.go g1.2 g2 _ _ t1) t2)
theorem er_d (h : EvD K w te ρ (Is d)) (r : EvR K w tr ρ (Is as)) : EvR K w (tCons te tr) ρ (Is (.d d :: as)) := fun σ H0 H E Q q =>
  h σ H0 H E _ fun v d' H1 g1 s1 t1 => r σ H0 H1 (E.go g1) _ fun vs as' H2 g2 s2 t2 => by
    cases (show d' = d from s1)
    cases (show as' = as from s2)
    exact q _ _ H2 (g1.trans g2) rfl (.cons (Tp.go g1.2 g2 _ _ t1) t2)
theorem er_l (h : EvL K w te ρ (Is ds)) (r : EvR K w tr ρ (Is as)) : EvR K w (tCons te tr) ρ (Is (.l ds :: as)) := fun σ H0 H E Q q =>
  h σ H0 H E _ fun p xs ds' H1 g1 s1 n1 h1 t1 => r σ H0 H1 (E.go g1) _ fun vs as' H2 g2 s2 t2 => by
    cases (show ds' = ds from s1)
    cases (show as' = as from s2)
    have nw : w ≠ some p := nw_of (H' := H) E.wok n1
    exact q _ _ H2 (g1.trans g2) rfl (.cons ⟨p, xs, rfl, .inl (.inl (g2.1 p _ nw h1)), t1.go g1.2 g2, nw⟩ t2)
theorem er_own {i : Nat} (h : ρ[i]? = some (some (.own ds))) (r : EvR K w tr ρ (Is as)) : EvR K w (tCons (tVar i) tr) ρ (Is (.l ds :: as)) := fun σ H0 H E Q q => by
  obtain ⟨p, xs, e, h0, hp, t, nw⟩ := E.gown h
  refine ⟨.ref p, e, r σ H0 H E _ fun vs as' H2 g2 s2 t2 => ?_⟩
  cases (show as' = as from s2)
  exact q _ _ H2 g2 rfl (.cons ⟨p, xs, rfl, .inl (.inl (g2.1 p _ nw hp)), t.go E.wok g2, nw⟩ t2)
/-! ### calls -/
theorem ev_callX {α : Type} {enc : α → List Ar} {P : α → Prop} {Sf : α → PyData → Prop} {E : XK} {ta_ : TA} (h : EvR K w ta_ ρ Ss) (hs : ∀ as, Ss as → ∃ a, as = enc a ∧ P a ∧ ∀ d, Sf a d → S d) : EvD K w (tCall (spG K enc P fun a => rD (Sf a)) [] E ta_) ρ S := fun σ H0 H En Q q =>
  h σ H0 H En _ fun vs as H1 g1 s1 t1 => by
    obtain ⟨a, rfl, p, k⟩ := hs as s1
    rw [List.append_nil]
    exact ⟨a, w, g1.2, t1, p, (En.go g1).tq, fun v d H2 g2 s2 t2 => q v d H2 (g1.trans g2) (k d s2) t2, fun p xs ds H2 g2 z => (show False from z).elim⟩
theorem ev_callXD {α : Type} {enc : α → List Ar} {P : α → Prop} {Sf : α → PyData → Prop} {E : XK} (a : α) (h : EvR K w tr ρ (Is (enc a))) (p : P a) : EvD K w (tCall (spG K enc P fun a => rD (Sf a)) [] E tr) ρ (Sf a) :=
  ev_callX h fun as e => ⟨a, e, p, fun _ s => s⟩
theorem el_callXD {α : Type} {enc : α → List Ar} {P : α → Prop} {Sf : α → List PyData → Prop} {E : XK} (a : α) (h : EvR K w tr ρ (Is (enc a))) (p : P a) : EvL K w (tCall (spG K enc P fun a => rL (Sf a)) [] E tr) ρ (Sf a) := fun σ H0 H En Q q =>
  h σ H0 H En _ fun vs as H1 g1 s1 t1 => by
    cases (show as = _ from s1)
    rw [List.append_nil]
    refine ⟨a, w, g1.2, t1, p, (En.go g1).tq, fun v d H2 g2 z => (show False from z).elim, fun p xs ds H2 g2 s2 n2 h2 t2 => q p xs ds H2 (g1.trans g2) s2 ?_ h2 t2⟩
    have nw : w ≠ some p := nw_of (H' := H) g1.2 n2
    cases e : H p with
    | none => rfl
    | some o => exact absurd n2 (Kp.nn g1.1 nw e)
end
end Vd
set_option Elab.async false
set_option linter.all false
set_option maxRecDepth 100000
set_option maxHeartbeats 4000000
/-! lists, further: grown, read, cut, walked; comprehensions; all -/
namespace Vd
open PySem PySem.Spec PyProof.Rows L2
theorem fresh_go {w : WA} {H H' : Hp} {p : Addr} (k : Wok w H') (g : Kp w H H') (h : H' p = none) : H p = none := by
  have nw : w ≠ some p := nw_of (H' := H) k h
  cases e : H p with
  | none => rfl
  | some o => exact absurd h (Kp.nn g nw e)
/-- a list that is read: one's own, or a read argument -/
def LstAt (ρ : Rho) (i : Nat) (ds : List PyData) : Prop := ρ[i]? = some (some (.own ds)) ∨ ρ[i]? = some (some (.ro ds))
section
variable {K : Fr} {w : WA} {ρ : Rho} {te ta tb : TE} {tr : TA} {d : PyData} {ds es : List PyData} {S : PyData → Prop} {R : Rt} {N : Rho → Prop} {tu : TS} {g : TG} {H0 : Bs} {H : Hp} {σ : L2.St}
theorem Env.lst (E : Env K w H0 H σ ρ) {i : Nat} (h : LstAt ρ i ds) : ∃ p xs, σ[i]? = some (some (.ref p)) ∧ SqL K H p xs ∧ TpAll K H xs ds ∧ w ≠ some p := by
  rcases h with h | h
  · obtain ⟨p, xs, e, _, hp, t, n⟩ := E.gown h
    exact ⟨p, xs, e, .inl (.inl hp), t, n⟩
  · obtain ⟨p, xs, e, sq, t, n, _⟩ := E.gro h
    exact ⟨p, xs, e, sq, t, n⟩
theorem ev_lenL {i : Nat} (h : LstAt ρ i ds) : EvD K w (tCB (fun xs H Q => ∃ p ys, xs = [.ref p] ∧ (SqL K H p ys ∨ SqT K H p ys) ∧ Q (.int ys.length) H) (tCons (tVar i) tNil)) ρ (Is (.int (ds.length : Int))) := fun σ H0 H E Q q => by
  obtain ⟨p, xs, e, sq, t, n⟩ := E.lst h
  refine ⟨.ref p, e, p, xs, rfl, .inl sq, ?_⟩
  rw [t.length]
  exact q _ _ H (Go.refl E.wok) rfl (.int _)
theorem ev_ixL {i : Nat} {n : Int} (h : LstAt ρ i ds) (hb : EvD K w tb ρ (Is (.int n))) (hx : atI ds n = some d) : EvD K w (tOp (rIxL K) (tVar i) tb) ρ (Is d) := fun σ H0 H E Q q => by
  obtain ⟨p, xs, e, sq, t, nw⟩ := E.lst h
  refine ⟨.ref p, e, hb σ H0 H E _ fun y b H1 g1 s1 t1 => ?_⟩
  cases (show b = _ from s1)
  rw [t1.inv_int]
  have t' := t.go E.wok g1
  obtain ⟨j, v, _, hd, hv, hxx⟩ := atI_map t'.length hx
  obtain ⟨v', e', tv⟩ := t'.get hd
  rw [hv] at e'; cases e'
  exact ⟨p, xs, n, v, rfl, rfl, sqL_kp g1.1 nw sq, hxx, q v d H1 g1 rfl tv⟩
/-- xs.append(e) -/
theorem run_app {i : Nat} (h : ρ[i]? = some (some (.own ds))) (he : EvD K w te ρ S) (hz : ds.length < 10000) (k : ∀ d, S d → N (ρ.set i (some (.own (ds ++ [d]))))) : Run K w (tDrop (tBM K "list" rAppend (tVar i) (tCons te tNil))) ρ R N := fun D σ H0 H E r n => by
  obtain ⟨p, xs, e, h0, hp, t, nw⟩ := E.gown h
  refine ⟨.ref p, e, .inl ⟨rfl, xs, .inl (.inl hp)⟩, he σ H0 H E _ fun v d H1 g1 s1 t1 => ?_⟩
  have hp1 := g1.1 p _ nw hp
  have t' := t.go E.wok g1
  refine ⟨p, xs, v, rfl, rfl, hp1, Evl.sz_lt (by rw [t.length]; omega), n σ _ _ ((E.go g1).chg h e hp1 (t'.append (.cons t1 .nil))) (k d s1)⟩
/-- x = a new list -/
theorem run_setL {i : Nat} {Ss : List PyData → Prop} (h : EvL K w te ρ Ss) (k : ∀ ds, Ss ds → Run K w tu (ρ.set i (some (.own ds))) R N) : Run K w (tSeq (tAsg te (gName i)) tu) ρ R N := fun D σ H0 H E r n => h σ H0 H E _ fun p xs ds H1 g1 s1 n1 h1 t1 => k ds s1 D _ H0 H1 (E.setown g1 n1 h1 t1 i) r n
theorem run_retL {Ss : List PyData → Prop} (h : EvL K w te ρ Ss) (k : ∀ ds, Ss ds → R.l ds) : Run K w (tRet te) ρ R N := fun D σ H0 H E r n => h σ H0 H E _ fun p xs ds H1 g1 s1 n1 h1 t1 =>
  r.2 p xs ds H1 ⟨E.kp.trans g1.1, g1.2⟩ (k ds s1) (fresh_go E.wok E.kp n1) h1 t1
theorem run_retOwn {i : Nat} (h : ρ[i]? = some (some (.own ds))) (k : R.l ds) : Run K w (tRet (tVar i)) ρ R N := fun D σ H0 H E r n => by
  obtain ⟨p, xs, e, h0, hp, t, nw⟩ := E.gown h
  exact ⟨.ref p, e, r.2 p xs ds H ⟨E.kp, E.wok⟩ k h0 hp t⟩
theorem el_nil : EvL K w (tLst tNil) ρ (Is []) := el_lstD ea_nil
/-- a new list cut out of one that is read -/
def cutD (ds : List PyData) (lo hi : Option Int) : List PyData := (ds.drop (HT.sIx ds.length 0 lo)).take (HT.sIx ds.length ds.length hi - HT.sIx ds.length 0 lo)
theorem TpAll.cut {xs : List V} (t : TpAll K H xs ds) (lo hi : Option Int) : TpAll K H (cutV xs lo hi) (cutD ds lo hi) := by
  unfold cutV cutD
  rw [t.length]
  exact (t.drop _).take _
theorem el_cutTo {i : Nat} {n : Int} (h : LstAt ρ i ds) (hb : EvD K w tb ρ (Is (.int n))) : EvL K w (tSl (rSlL K) (tVar i) tNoPart (tPart tb)) ρ (Is (cutD ds none (some n))) := fun σ H0 H E Q q => by
  obtain ⟨p, xs, e, sq, t, nw⟩ := E.lst h
  refine ⟨.ref p, e, hb σ H0 H E _ fun y b H1 g1 s1 t1 => ?_⟩
  cases (show b = _ from s1)
  rw [t1.inv_int]
  refine ⟨n, rfl, p, xs, rfl, sqL_kp g1.1 nw sq, fun c hc => ?_⟩
  have gc := Go.new (o := .lst (cutV xs none (some n))) g1.2 hc
  exact q c _ _ _ (g1.trans gc) rfl (fresh_go g1.2 g1.1 hc) upd_same (((t.go E.wok g1).go g1.2 gc).cut _ _)
/-- tuple(a new list) -/
theorem ev_tupOf (h : EvL K w te ρ (Is ds)) : EvD K w (tCB (fun xs H Q => ∃ p ys, xs = [.ref p] ∧ ((SqL K H p ys ∧ ∀ l, H l = none → Q (.ref l) (upd H l (.tup ys))) ∨ (SqT K H p ys ∧ Q (.ref p) H))) (tCons te tNil)) ρ (Is (.tuple ds)) := fun σ H0 H E Q q =>
  h σ H0 H E _ fun p xs ds' H1 g1 s1 n1 h1 t1 => by
    cases (show ds' = ds from s1)
    refine ⟨p, xs, rfl, .inl ⟨.inl (.inl h1), fun l hl => ?_⟩⟩
    have gl := Go.new (o := .tup xs) g1.2 hl
    exact q _ _ _ (g1.trans gl) rfl (.tup (.inl (.inl upd_same)) (t1.go g1.2 gl))
/-- two new lists, one behind the other -/
theorem el_cat (ha : EvL K w ta ρ (Is ds)) (hb : EvL K w tb ρ (Is es)) (hz : ds.length + es.length ≤ 100000) : EvL K w (tOp rCat ta tb) ρ (Is (ds ++ es)) := fun σ H0 H E Q q =>
  ha σ H0 H E _ fun p xs ds' H1 g1 s1 n1 h1 t1 => hb σ H0 H1 (E.go g1) _ fun r ys es' H2 g2 s2 n2 h2 t2 => by
    cases (show ds' = ds from s1)
    cases (show es' = es from s2)
    have nw : w ≠ some p := nw_of (H' := H) E.wok n1
    have t1' := t1.go g1.2 g2
    refine ⟨p, r, xs, ys, rfl, rfl, g2.1 p _ nw h1, h2, Evl.sz_of (by rw [t1.length, t2.length]; exact hz), fun c hc => ?_⟩
    have gc := Go.new (o := .lst (xs ++ ys)) g2.2 hc
    exact q c _ _ _ ((g1.trans g2).trans gc) rfl (fresh_go g2.2 (g1.trans g2).1 hc) upd_same ((t1'.go g2.2 gc).append (t2.go g2.2 gc))
/-- a list of one's own and a new one, one behind the other -/
theorem el_catOwn {i : Nat} (h : LstAt ρ i ds) (hb : EvL K w tb ρ (Is es)) (hz : ds.length + es.length ≤ 100000) (ho : ρ[i]? = some (some (.own ds))) : EvL K w (tOp rCat (tVar i) tb) ρ (Is (ds ++ es)) := fun σ H0 H E Q q => by
  obtain ⟨p, xs, e, h0, hp, t, nw⟩ := E.gown ho
  refine ⟨.ref p, e, hb σ H0 H E _ fun r ys es' H2 g2 s2 n2 h2 t2 => ?_⟩
  cases (show es' = es from s2)
  have t1' := t.go E.wok g2
  refine ⟨p, r, xs, ys, rfl, rfl, g2.1 p _ nw hp, h2, Evl.sz_of (by rw [t.length, t2.length]; exact hz), fun c hc => ?_⟩
  have gc := Go.new (o := .lst (xs ++ ys)) g2.2 hc
  exact q c _ _ _ (g2.trans gc) rfl (fresh_go g2.2 g2.1 hc) upd_same ((t1'.go g2.2 gc).append (t2.go g2.2 gc))
/-- all(a new list of bools) -/
theorem bools_of : ∀ {bs : List Bool} {xs : List V}, TpAll K H xs (bs.map .bool) → xs = bs.map V.bl
  | [], _, h => by cases h; rfl
  | b :: bs, _, h => by
    cases h with
    | cons h1 h2 => rw [h1.inv_bl, bools_of h2]; rfl
theorem ev_all {bs : List Bool} (h : EvL K w te ρ (Is (bs.map .bool))) : EvD K w (tCB (rAll K) (tCons te tNil)) ρ (Is (.bool (bs.all id))) := fun σ H0 H E Q q =>
  h σ H0 H E _ fun p xs ds' H1 g1 s1 n1 h1 t1 => by
    cases (show ds' = _ from s1)
    have e := bools_of t1
    subst e
    exact ⟨p, bs, rfl, .inl (.inl h1), q _ _ H1 g1 rfl (.bl _)⟩
/-- for .. in a list that is read -/
theorem run_forL {i : Nat} (h : ρ[i]? = some (some (.ro ds))) (I : Nat → Rho → Prop) (h0 : I 0 ρ) (hs : ∀ (j : Nat) d ρ', ds[j]? = some d → I j ρ' → ∃ ρ1, Tg K w g d ρ' ρ1 ∧ Run K w tu ρ1 R (fun ρ2 => I (j + 1) ρ2)) (hd : ∀ ρ', I ds.length ρ' → N ρ') : Run K w (tFor (iList K (tVar i)) g tu) ρ R N := fun D σ H0 H E r nx => by
  obtain ⟨p, xs, e, sq, t, nw, hm⟩ := E.gro h
  have key : ∀ {σ' : L2.St} {ρ' : Rho} {H' : Hp}, Env K w H0 H' σ' ρ' → SqL K H' p xs ∧ TpAll K H' xs ds := fun E' => ⟨sqL_kp E'.kp nw (E'.lin _ (List.mem_append_left _ hm)).1, (E'.lin _ (List.mem_append_left _ hm)).2.1⟩
  refine ⟨.ref p, e, p, rfl, ⟨xs, sq⟩, for_list (xs := xs) (fun j σ' H' => ∃ ρ', I j ρ' ∧ Env K w H0 H' σ' ρ') ⟨ρ, h0, E⟩ (fun j σ' H' _ hz => ?_) (fun j x σ' H' hx hz => ?_) fun σ' H' hz => ?_⟩
  · obtain ⟨ρ', _, E'⟩ := hz
    exact (key E').1
  · obtain ⟨ρ', pI, E'⟩ := hz
    obtain ⟨d, hd1, td⟩ := (key E').2.getv hx
    obtain ⟨ρ1, tgt, ru⟩ := hs j d ρ' hd1 pI
    exact tgt x σ' _ H' _ E' td fun σ2 H2 _ E2 => ru _ σ2 _ H2 E2 r fun σ3 ρ3 H3 E3 q => ⟨ρ3, q, E3⟩
  · obtain ⟨ρ', pI, E'⟩ := hz
    exact nx σ' ρ' H' E' (hd ρ' (by rw [← t.length]; exact pI))
end
/-! ### comprehensions -/
def wipeR (ρ : Rho) : List Nat → Rho
  | [] => ρ
  | v :: vs => (wipeR ρ vs).set v none
section
variable {K : Fr} {w : WA} {ρ : Rho} {H0 : Bs} {H : Hp} {σ : L2.St}
theorem Env.none1 (E : Env K w H0 H σ ρ) (i : Nat) : Env K w H0 H (σ.set i none) (ρ.set i none) := by
  refine ⟨E.kp, E.pin, E.lin, E.wok, by rw [List.length_set, List.length_set, E.len], fun j o s a b => ?_, fun j k d1 d2 o a b c d => ?_, E.tq, E.zin⟩
  · rw [List.getElem?_set] at a b
    by_cases e : i = j
    · rw [if_pos e] at b
      split at b
      · cases b; trivial
      · cases b
    · rw [if_neg e] at a b
      exact E.sl j o s a b
  · rw [List.getElem?_set] at a b c d
    by_cases e : i = j
    · rw [if_pos e] at a; split at a <;> cases a
    · by_cases e2 : i = k
      · rw [if_pos e2] at b; split at b <;> cases b
      · rw [if_neg e] at a c
        rw [if_neg e2] at b d
        exact E.sep j k d1 d2 o a b c d
theorem Env.wipe (E : Env K w H0 H σ ρ) : ∀ vs : List Nat, Env K w H0 H (L2.wipe σ vs) (wipeR ρ vs)
  | [] => E
  | v :: vs => (Env.wipe E vs).none1 v
theorem wipe_len (σ : L2.St) : ∀ vs : List Nat, (L2.wipe σ vs).length = σ.length
  | [] => rfl
  | v :: vs => by
    show ((L2.wipe σ vs).set v none).length = _
    rw [List.length_set, wipe_len σ vs]
theorem wipe_get (σ : L2.St) : ∀ (vs : List Nat) (i : Nat), (L2.wipe σ vs)[i]? = if i ∈ vs then (if i < σ.length then some none else none) else σ[i]?
  | [], i => by rw [if_neg (List.not_mem_nil)]; rfl
  | v :: vs, i => by
    show ((L2.wipe σ vs).set v none)[i]? = _
    rw [List.getElem?_set, wipe_len, wipe_get σ vs i]
    by_cases e : v = i
    · subst e
      rw [if_pos rfl, if_pos List.mem_cons_self]
    · rw [if_neg e]
      by_cases m : i ∈ vs
      · rw [if_pos m, if_pos (List.mem_cons_of_mem _ m)]
      · rw [if_neg m, if_neg (fun z => by rcases List.mem_cons.mp z with z | z; exact e z.symm; exact m z)]
theorem wipe_set1 (σ : L2.St) {vs : List Nat} {j : Nat} (hj : j ∈ vs) (o : Option V) : L2.wipe ((L2.wipe σ vs).set j o) vs = L2.wipe σ vs := by
  apply List.ext_getElem?
  intro i
  rw [wipe_get, wipe_get, List.length_set, wipe_len]
  by_cases m : i ∈ vs
  · rw [if_pos m, if_pos m]
  · rw [if_neg m, if_neg m, List.getElem?_set, if_neg (fun z => m (by rw [← z]; exact hj)), wipe_get, if_neg m]
theorem wipe_set2 (σ : L2.St) {vs : List Nat} {j k : Nat} (hj : j ∈ vs) (hk : k ∈ vs) (o u : Option V) : L2.wipe (((L2.wipe σ vs).set j o).set k u) vs = L2.wipe σ vs := by
  apply List.ext_getElem?
  intro i
  rw [wipe_get, wipe_get, List.length_set, List.length_set, wipe_len]
  by_cases m : i ∈ vs
  · rw [if_pos m, if_pos m]
  · rw [if_neg m, if_neg m, List.getElem?_set, if_neg (fun z => m (by rw [← z]; exact hk)), List.getElem?_set, if_neg (fun z => m (by rw [← z]; exact hj)), wipe_get, if_neg m]
end
/-- a target of a comprehension: what it puts, and that it stays within its own names -/
def Tc (K : Fr) (w : WA) (g : TG) (vs : List Nat) (d : PyData) (ρ ρ' : Rho) : Prop := ∀ (v : V) (τ : L2.St) (H0 : Bs) (H : Hp) (Q : L2.St → Hp → Prop), Env K w H0 H (L2.wipe τ vs) ρ → Tp K H v d → (∀ σ', Env K w H0 H σ' ρ' → L2.wipe σ' vs = L2.wipe τ vs → Q σ' H) → g v (L2.wipe τ vs) H Q
theorem tc_name {K : Fr} {w : WA} {vs : List Nat} {j : Nat} {d : PyData} {ρ : Rho} (hj : j ∈ vs := by decide) : Tc K w (gName j) vs d ρ (ρ.set j (some (.d d))) := fun v τ H0 H Q E t q => q _ (E.setd t j) (wipe_set1 τ hj _)
theorem tc_pair {K : Fr} {w : WA} {vs : List Nat} {j k : Nat} {d e : PyData} {ρ : Rho} (hj : j ∈ vs := by decide) (hk : k ∈ vs := by decide) : Tc K w (gTup K 2 (gCons (gName j) (gCons (gName k) gNil))) vs (.tuple [d, e]) ρ ((ρ.set j (some (.d d))).set k (some (.d e))) := fun v τ H0 H Q E t q => by
  obtain ⟨a, xs, rfl, sq, al⟩ := t.inv_tup
  obtain ⟨x, y, rfl, t1, t2⟩ := al.two
  exact ⟨a, [x, y], rfl, sq, rfl, x, [y], rfl, y, [], rfl, rfl, q _ ((E.setd t1 j).setd t2 k) (wipe_set2 τ hj hk _ _)⟩
section
variable {K : Fr} {w : WA} {ρ : Rho} {te tl : TE} {ds : List PyData} {g : TG} {vs : List Nat}
/-- [f(x) for x in a tuple] -/
theorem el_map (f : Nat → PyData → PyData) (h : EvD K w tl ρ (Is (.tuple ds))) (hz : ds.length ≤ 1000) (ht : ∀ (i : Nat) d, ds[i]? = some d → ∃ ρ1, Tc K w g vs d (wipeR ρ vs) ρ1 ∧ EvD K w te ρ1 (Is (f i d))) :
    EvL K w (tLc (iTup K tl) g tYes te vs) ρ (Is (ds.mapIdx f)) := fun σ H0 H E Q q =>
  h σ H0 H E _ fun v d H1 g1 s1 t1 => by
    cases (show d = _ from s1)
    obtain ⟨a, xs, rfl, sq, al⟩ := t1.inv_tup
    refine ⟨a, rfl, ⟨xs, sq⟩, fun Dl hD => ?_⟩
    have nD : w ≠ some Dl := nw_of (H' := H) g1.2 hD
    refine lc_tup (K := K) (a := a) (xs := xs) (g := g) (tt := tYes) (te := te) (vs := vs) (σ := σ) (H1 := H1) (D := Dl) (Qd := fun H' => Q (.ref Dl) H') (fun i H' => Go w H1 H' ∧ ∃ ys, H' Dl = some (.lst ys) ∧ TpAll K H' ys ((ds.take i).mapIdx f)) ⟨Go.new g1.2 hD, [], upd_same, .nil⟩ (fun i H' _ hP => sqT_go g1.2 hP.1 sq) (fun i x H' hx hP => ?_) fun H' hP => ?_
    · obtain ⟨gg, ys, hy, ty⟩ := hP
      obtain ⟨d, hd, td⟩ := (al.go g1.2 gg).getv hx
      obtain ⟨ρ1, tc, ev⟩ := ht i d hd
      have E' := ((E.go g1).go gg).wipe vs
      refine tc x σ H0 H' _ E' td fun σ' E2 we => ⟨we, ?_⟩
      refine iteT (B := Go w H1 H' ∧ ∃ ys, H' Dl = some (.lst ys) ∧ TpAll K H' ys ((ds.take (i + 1)).mapIdx f)) (ev σ' H0 H' E2 _ fun u e H2 g2 s2 t2 => ?_)
      cases (show e = _ from s2)
      have hy2 := g2.1 Dl _ nD hy
      have ty2 := ty.go gg.2 g2
      have hi : i < ds.length := (List.getElem?_eq_some_iff.mp hd).1
      have gw : Go w H2 (upd H2 Dl (.lst (ys ++ [u]))) ∨ True := .inr trivial
      refine ⟨ys, hy2, Evl.sz_lt (by rw [ty.length, List.length_mapIdx, List.length_take]; omega), ⟨(gg.trans g2).1.chg hD (lst_no hy2), fun b z => ?_⟩, ys ++ [u], upd_same, ?_⟩
      · obtain ⟨x1, y1, z1, k1⟩ := g2.2 b z
        exact ⟨x1, y1, z1, by rw [upd_ne (fun q => nD (by rw [← q]; exact z))]; exact k1⟩
      · have e1 : (ds.take (i + 1)).mapIdx f = (ds.take i).mapIdx f ++ [f i d] := by
          rw [List.take_add_one, hd]
          simp only [Option.toList_some, List.mapIdx_append, List.mapIdx_cons, List.mapIdx_nil, List.length_take]
          rw [show (0 + min i ds.length) = i by omega]
        rw [e1]
        exact (ty2.append (.cons t2 .nil)).wr hy2
    · obtain ⟨gg, ys, hy, ty⟩ := hP
      rw [al.length, List.take_length] at ty
      exact q Dl ys _ H' (g1.trans gg) rfl (fresh_go g1.2 g1.1 hD) hy ty
end
end Vd
set_option Elab.async false
set_option linter.all false
set_option maxRecDepth 100000
set_option maxHeartbeats 4000000
/-! zip of two things that are each a tuple or a list -/
namespace Vd
open PySem PySem.Spec PyProof.Rows L2
/-- kind t: a tuple, else a list -/
def Sq (K : Fr) (t : Bool) (H : Hp) (a : Addr) (xs : List V) : Prop := cond t (SqT K H a xs) (SqL K H a xs)
def CellsOf (t : Bool) (h : Heap) (a : Addr) (us : Array Value) : Prop := cond t (h.IsTuple a us) (h.IsList a us)
def StepsOf (t : Bool) (h : Heap) (it a : Addr) (i : Nat) : Prop := cond t (h.IsTupleIter it a i) (h.IsListIter it a i)
theorem cells_of {X : Cx} {pins : List (Addr × Obj)} {σ : L2.St} {H : Hp} {s : Shared} (I : Inv X pins σ H s) {t : Bool} {a : Addr} {xs : List V} (h : Sq X.K t H a xs) : ∃ us : List Value, Vals xs us ∧ CellsOf t s.heap a us.toArray ∧ a < s.heap.objs.size := by
  cases t with
  | true =>
    obtain ⟨us, r, p, _⟩ := I.tuple h
    obtain ⟨o, ho, _⟩ := id p
    exact ⟨us, r, p, Heap.lt_size ho⟩
  | false =>
    obtain ⟨us, r, p, _⟩ := I.list h
    exact ⟨us, r, p.isList, p.lt⟩
theorem draws_of {P : Program} {w : World} {A : Around} (hh : A.handled = none) (t : Bool) {it a : Addr} (hne : a ≠ it) (us : Array Value) :
    Draws P w A it [it, a] us.size (fun i v => us[i]? = some v) (fun i h => StepsOf t h it a i ∧ CellsOf t h a us) := by
  cases t with
  | true => exact Draws.tuple hh it a hne us
  | false => exact Draws.list hh it a hne us
theorem sq_inj {X : Cx} {pins : List (Addr × Obj)} {σ : L2.St} {H : Hp} {s : Shared} (I : Inv X pins σ H s) {t : Bool} {a : Addr} {xs ys : List V} (h : Sq X.K t H a xs) (g : Sq X.K t H a ys) : xs = ys := by
  cases t with
  | true => exact I.tuple_inj h g
  | false => exact I.list_inj h g
/-- turn i of the two of kinds t, u at a, b -/
def Itm (K : Fr) (t u : Bool) (a b : Addr) : It where
  go := fun i H => ∃ (xs ys : List V) (x y : V), Sq K t H a xs ∧ Sq K u H b ys ∧ xs[i]? = some x ∧ ys[i]? = some y
  yld := fun i H v H' => ∃ (T : Addr) (x y : V), v = .ref T ∧ H T = none ∧ H' = upd H T (.tup [x, y]) ∧ (∀ xs, Sq K t H a xs → xs[i]? = some x) ∧ (∀ ys, Sq K u H b ys → ys[i]? = some y)
  stop := fun i H => ∃ xs ys : List V, Sq K t H a xs ∧ Sq K u H b ys ∧ i = min xs.length ys.length
/-- the cells of such a zip, at turn i -/
def ZipAt (t u : Bool) (a b z TI TO i1 i2 : Addr) (i : Nat) (h : Heap) : Prop :=
  IsZip h z TI TO .none ∧ IsTupOf2 h TI (.ref i1) (.ref i2) ∧ (∃ x y, IsTupOf2 h TO x y) ∧ StepsOf t h i1 a i ∧ StepsOf u h i2 b i
theorem steps_obj {t : Bool} {h : Heap} {it a : Addr} {i : Nat} (s : StepsOf t h it a i) : ∃ o, h.get? it = some o ∧ ∀ v, o.data ≠ .cell v := by
  cases t with
  | true => obtain ⟨o, e, _, d⟩ := s; exact ⟨o, e, fun v q => by rw [d] at q; cases q⟩
  | false => obtain ⟨o, e, _, d⟩ := s; exact ⟨o, e, fun v q => by rw [d] at q; cases q⟩
theorem steps_keep {t : Bool} {h h' : Heap} {it a : Addr} {i : Nat} (s : StepsOf t h it a i) (k : ∀ o, h.get? it = some o → h'.get? it = some o) : StepsOf t h' it a i := by
  cases t with
  | true => exact Heap.IsTupleIter.at s k
  | false => exact Heap.IsListIter.at s k
theorem apart_of {t : Bool} {h : Heap} {it a : Addr} {i : Nat} {us : Array Value} (s : StepsOf t h it a i) (c : CellsOf t h a us) : a ≠ it := fun e => by
  subst e
  cases t with
  | true =>
    obtain ⟨o, e1, c1, _⟩ := s
    obtain ⟨o', e2, c2, _⟩ := c
    have e := Option.some.inj (e1.symm.trans e2)
    rw [e, c2] at c1
    exact absurd c1 (by decide)
  | false =>
    obtain ⟨o, e1, c1, _⟩ := s
    obtain ⟨o', e2, c2, _⟩ := c
    have e := Option.some.inj (e1.symm.trans e2)
    rw [e, c2] at c1
    exact absurd c1 (by decide)
theorem five {p : Addr → Prop} {z TI TO i1 i2 : Addr} (a : p z) (b : p TI) (c : p TO) (d : p i1) (e : p i2) : ∀ q ∈ [z, TI, TO, i1, i2], p q := by
  intro q hq
  simp only [List.mem_cons, List.not_mem_nil, or_false] at hq
  rcases hq with rfl | rfl | rfl | rfl | rfl
  · exact a
  · exact b
  · exact c
  · exact d
  · exact e
theorem four_in {q z TI TO i1 i2 : Addr} (h : q ∉ [z, TI, TO, i1, i2]) : q ∉ [z, TO, i1, i2] := fun m => h (by
  simp only [List.mem_cons, List.not_mem_nil, or_false] at m ⊢
  rcases m with m | m | m | m
  · exact .inl m
  · exact .inr (.inr (.inl m))
  · exact .inr (.inr (.inr (.inl m)))
  · exact .inr (.inr (.inr (.inr m))))
theorem turn_m {P : Program} {w : World} {K : Fr} {elts : List Expr} {kk : Nat} {tpos : Pos} {t u : Bool} {a b z TI TO i1 i2 : Addr} (S : ZipSep2 z TI TO i1 i2 [i1, a] [i2, b]) :
    Turn P w K (.Tuple elts kk tpos) (Itm K t u a b) [z, TI, TO, i1, i2] z (ZipAt t u a b z TI TO i1 i2) where
  mem := List.mem_cons_self ..
  obj := fun i h ⟨hz, hI, ⟨x, y, hO⟩, s1, s2⟩ => five ⟨_, hz, fun _ q => nomatch q⟩ ⟨_, hI, fun _ q => nomatch q⟩ ⟨_, hO, fun _ q => nomatch q⟩ (steps_obj s1) (steps_obj s2)
  keep := fun i h h' ⟨hz, hI, ⟨x, y, hO⟩, s1, s2⟩ k => ⟨k z (by simp) _ hz, k TI (by simp) _ hI, ⟨x, y, k TO (by simp) _ hO⟩, steps_keep s1 fun o e => k i1 (by simp) o e, steps_keep s2 fun o e => k i2 (by simp) o e⟩
  item := by
    intro X hP hw hK hc i pins s σ H E I hf st ⟨xs, ys, x, y, qa, qb, hx, hy⟩
    subst hP hw hK
    obtain ⟨hz, hI, hO, s1, s2⟩ := st
    obtain ⟨us, ra, ca, la⟩ := cells_of I qa
    obtain ⟨vs, rb, cb, lb⟩ := cells_of I qb
    obtain ⟨p, hp, rp⟩ := ra.get hx
    obtain ⟨q, hq, rq⟩ := rb.get hy
    have na : a ≠ i1 := apart_of s1 ca
    have nb : b ≠ i2 := apart_of s2 cb
    have hd : X.A.in1.handled = none := I.ok.hd hc
    have W := WalksT.zipD2 (prog := X.prog) (w := X.w) (A := X.A) S (draws_of hd t na us.toArray) (draws_of hd u nb vs.toArray)
    have hi1 : i < us.length := (List.getElem?_eq_some_iff.mp hp).1
    have hi2 : i < vs.length := (List.getElem?_eq_some_iff.mp hq).1
    refine W.item i s _ E (by simp only [List.size_toArray]; omega) ⟨hz, hI, hO, ⟨s1, ca⟩, ⟨s2, cb⟩⟩ fun T vals h1 tk hv hT tup mid k1 => ?_
    refine ⟨_, rfl, W.go elts kk tpos i T { s with heap := h1, toks := tk } _ E mid fun h2 st2 k2 => ?_⟩
    obtain ⟨p', q', ep, eq, ev⟩ := hv
    have ep' : p' = p := by
      have e : us[i]? = some p' := by simpa using ep
      rw [hp] at e; exact (Option.some.inj e).symm
    have eq' : q' = q := by
      have e : vs[i]? = some q' := by simpa using eq
      rw [hq] at e; exact (Option.some.inj e).symm
    subst ep' eq' ev
    obtain ⟨o, ho, hcl, n, hda⟩ := tup
    have new : ObjOk X.prog X.w (upd H T (.tup [x, y])) h2 T (.tup [x, y]) :=
      ⟨by show 2 ≤ sizeLine; decide, [p', q'], .cons rp (.cons rq .nil), ⟨o, k2 T o (W.apart i T h1 mid) ho, hcl, n, hda⟩⟩
    have I2 : Inv X pins σ (upd H T (.tup [x, y])) { s with heap := h2, toks := tk } :=
      I.turnedNew (ch := [z, TI, TO, i1, i2]) (fun c o hb e => k2 c o (four_in hb) (k1 c o (four_in hb) e)) hf hT new
    obtain ⟨z2, I3, O2, t1, t2⟩ := st2
    refine ⟨.ref T, _, I2, rfl, ⟨T, x, y, rfl, I.hok.fresh hT, rfl, fun l hl => by rw [sq_inj I hl qa]; exact hx, fun l hl => by rw [sq_inj I hl qb]; exact hy⟩, ⟨z2, I3, O2, t1.1, t2.1⟩, fun c hcm => ?_⟩
    obtain ⟨_, _, eo⟩ := hO
    have lt : c < s.heap.objs.size := five (p := fun c => c < s.heap.objs.size) (Heap.lt_size hz) (Heap.lt_size hI) (Heap.lt_size eo) (Heap.lt_size (steps_obj s1).choose_spec.1) (Heap.lt_size (steps_obj s2).choose_spec.1) c hcm
    rw [upd_ne (Nat.ne_of_lt (Nat.lt_of_lt_of_le lt hT))]
    exact (hf c hcm).1
  done := by
    intro X hP hw hK hc i pins s σ H E I hf st ⟨xs, ys, qa, qb, he⟩
    subst hP hw hK
    obtain ⟨hz, hI, hO, s1, s2⟩ := st
    obtain ⟨us, ra, ca, la⟩ := cells_of I qa
    obtain ⟨vs, rb, cb, lb⟩ := cells_of I qb
    have na : a ≠ i1 := apart_of s1 ca
    have nb : b ≠ i2 := apart_of s2 cb
    have hd : X.A.in1.handled = none := I.ok.hd hc
    have W := WalksT.zipD2 (prog := X.prog) (w := X.w) (A := X.A) S (draws_of hd t na us.toArray) (draws_of hd u nb vs.toArray)
    have en : min us.toArray.size vs.toArray.size = i := by
      rw [List.size_toArray, List.size_toArray, ← ra.length, ← rb.length, he]
    refine W.done s _ E (by rw [en]; exact ⟨hz, hI, hO, ⟨s1, ca⟩, ⟨s2, cb⟩⟩) fun h1 tk k1 => ⟨rfl, I.turnedL (ch := [z, TI, TO, i1, i2]) (fun c o hb e => k1 c o (four_in hb) e) hf⟩
  self := fun A i s Q E st h => wpAny_pyIter_zip st.1 h
/-- what begins a walk of kind t -/
def itObj (t : Bool) (a : Addr) : Obj := cond t { cls := .type "tuple_iterator", data := .fields #[.ref a, .int 0 0] } { cls := .type "list_iterator", data := .fields #[.ref a, .int 0 0] }
theorem begins_of (t : Bool) (a : Addr) (us : Array Value) : Begins (.ref a) (itObj t a) (fun h => CellsOf t h a us) := by
  cases t with
  | true => exact begins_tuple a us
  | false => exact begins_list a us
theorem steps_of {t : Bool} {h : Heap} {it a : Addr} (e : h.get? it = some (itObj t a)) : StepsOf t h it a 0 := by
  cases t with
  | true => exact ⟨_, e, rfl, rfl⟩
  | false => exact ⟨_, e, rfl, rfl⟩
def iZm (K : Fr) (ta : TA) : TI := fun σ H R => ta σ H fun vs H1 => ∃ (t u : Bool) (a b : Addr) (xs ys : List V), vs = [.ref a, .ref b] ∧ Sq K t H1 a xs ∧ Sq K u H1 b ys ∧ R (Itm K t u a b) H1
theorem pi_m {X : Cx} {e e2 : Expr} {ta : TA} {p pos tpos : Pos} {elts : List Expr} {kk : Nat} (hg : Gl X "zip") (hm : X.mg "zip" = none) (ha : PA X [e, e2] ta)
    (hs : starEach [e, e2] X.env = (false, eval e X.env) :: starEach [e2] X.env := by rfl) (hpl : (backTo pos (starEach [e2] X.env)).any (·.1) = false := by rfl) :
    PI X (.Tuple elts kk tpos) (.Call (.Name "zip" p) [e, e2] [] pos) (iZm X.K ta) := by
  refine ⟨fun pins s σ H R I h => Call_ (ld_blt I hg hm PyProof.Rows.boot_zip (PyProof.Rows.callWith_type1 (thn (ha.run pos pins s σ H _ I h) fun us s1 hq => ?_) hs hpl))⟩
  obtain ⟨vs, H1, I1, r1, t, u, a, b, xs, ys, ev, qa, qb, q⟩ := hq
  subst ev
  obtain _ | ⟨ra, r2⟩ := r1
  obtain _ | ⟨rb, r3⟩ := r2
  cases r3
  cases ra
  cases rb
  obtain ⟨cs, va, ca, la⟩ := cells_of I1 qa
  obtain ⟨ds, vb, cb, lb⟩ := cells_of I1 qb
  refine zip_begins2 (begins_of t a cs.toArray) (begins_of u b ds.toArray) ca cb fun h1 hz hI hO g1 g2 hsz k => wpAny_pyIter_zip hz ?_
  have I2 : Inv X pins σ H1 { s1 with heap := h1 } := I1.kept (t' := s1.toks) k
  have S := zip_sep2 (N := s1.heap.objs.size) (fp1 := [a]) (fp2 := [b]) (fun c hc => by rw [List.mem_singleton.mp hc]; exact la) (fun c hc => by rw [List.mem_singleton.mp hc]; exact lb)
  have up : ∀ c : Addr, s1.heap.objs.size ≤ c → FpOk X pins H1 c := fun c hc => I1.fpOk hc (I1.hok.fresh hc)
  have le : ∀ m : Nat, s1.heap.objs.size ≤ s1.heap.objs.size + m := fun m => Nat.le_add_right _ m
  exact ⟨_, _, _, _, H1, rfl, I2, turn_m S, ⟨hz, hI, ⟨_, _, hO⟩, steps_of g1, steps_of g2⟩, five (up _ (le 4)) (up _ (le 2)) (up _ (le 3)) (up _ (Nat.le_refl _)) (up _ (le 1)), q⟩
end Vd
set_option Elab.async false
set_option linter.all false
set_option maxRecDepth 100000
set_option maxHeartbeats 4000000
/-! a list without a name is held while a loop runs; loops over zip; comprehensions over zip -/
namespace Vd
open PySem PySem.Spec PyProof.Rows L2
def hold (B : Bs) (p : Addr) (xs : List V) (ds : List PyData) : Bs := ⟨upd B.h p (.lst xs), B.pn, B.ln, (p, xs, ds) :: B.tn, B.zn⟩
section
variable {K : Fr} {w : WA} {H0 : Bs} {H H1 : Hp} {σ : L2.St} {ρ : Rho} {p : Addr} {xs : List V} {ds : List PyData}
theorem Env.fresh0 (E : Env K w H0 H σ ρ) (n0 : H p = none) : H0.h p = none := by
  have nw : w ≠ some p := nw_of (H' := H) E.wok n0
  cases e : H0.h p with
  | none => rfl
  | some o => exact absurd n0 (Kp.nn E.kp nw e)
theorem Env.hold (E : Env K w H0 H σ ρ) (g : Go w H H1) (n0 : H p = none) (h1 : H1 p = some (.lst xs)) (t : TpAll K H1 xs ds) : Env K w (hold H0 p xs ds) H1 σ ρ := by
  have nw : w ≠ some p := nw_of (H' := H) E.wok n0
  have F := E.go g
  have z0 := E.fresh0 n0
  refine ⟨F.kp.base h1, F.pin, fun r hr => ?_, F.wok, F.len, fun i o s a b => ?_, E.sep, F.tq, F.zin⟩
  · rcases List.mem_append.mp hr with hr | hr
    · obtain ⟨z1, z2, z3⟩ := F.lin r (List.mem_append_left _ hr)
      exact ⟨sqL_kp (w := w) (Kp.new z0) z3 z1, z2, z3⟩
    · rcases List.mem_cons.mp hr with rfl | hr
      · exact ⟨.inl (.inl upd_same), t, nw⟩
      · obtain ⟨z1, z2, z3⟩ := F.lin r (List.mem_append_right _ hr)
        exact ⟨sqL_kp (w := w) (Kp.new z0) z3 z1, z2, z3⟩
  · cases s with
    | none => trivial
    | some s =>
      cases s with
      | d x => exact F.sl i o _ a b
      | obj x => exact F.sl i o _ a b
      | ro x => exact F.sl i o _ a b
      | ex φ => obtain ⟨v, e, z, x⟩ := F.sl i o _ a b; exact ⟨v, e, x.frz h1 z, x⟩
      | own x =>
        obtain ⟨q, ys, eo, q0, hq, tq, nq⟩ := E.sl i o _ a b
        refine ⟨q, ys, eo, ?_, g.1 _ _ nq hq, tq.go E.wok g, nq⟩
        show upd H0.h p (.lst xs) q = none
        rw [upd_ne (fun z => by rw [z, n0] at hq; cases hq)]
        exact q0
theorem Env.letgo (E : Env K w (Vd.hold H0 p xs ds) H σ ρ) (z0 : H0.h p = none) (l0 : ∀ r : Addr × List V × List PyData, r ∈ H0.ln ++ H0.tn → SqL K H0.h r.1 r.2.1) : Env K w H0 H σ ρ := by
  refine ⟨(Kp.new z0).trans E.kp, E.pin, fun r hr => ?_, E.wok, E.len, fun i o s a b => ?_, E.sep, E.tq, E.zin⟩
  · obtain ⟨_, z2, z3⟩ := E.lin r (by
      rcases List.mem_append.mp hr with hr | hr
      · exact List.mem_append_left _ hr
      · exact List.mem_append_right _ (List.mem_cons_of_mem _ hr))
    exact ⟨l0 r hr, z2, z3⟩
  · cases s with
    | none => trivial
    | some s =>
      cases s with
      | d x => exact E.sl i o _ a b
      | obj x => exact E.sl i o _ a b
      | ro x => exact E.sl i o _ a b
      | ex φ => obtain ⟨v, e, z, x⟩ := E.sl i o _ a b; exact ⟨v, e, x.thw z, x⟩
      | own x =>
        obtain ⟨q, ys, eo, q0, hq, tq, nq⟩ := E.sl i o _ a b
        refine ⟨q, ys, eo, ?_, hq, tq, nq⟩
        have q0' : upd H0.h p (.lst xs) q = none := q0
        have ne : q ≠ p := fun z => by rw [z, upd_same] at q0'; cases q0'
        rw [upd_ne ne] at q0'
        exact q0'
theorem Env.held (E : Env K w (Vd.hold H0 p xs ds) H σ ρ) : SqL K H p xs ∧ TpAll K H xs ds := by
  obtain ⟨z1, z2, z3⟩ := E.lin (p, xs, ds) (List.mem_append_right _ List.mem_cons_self)
  exact ⟨sqL_kp E.kp z3 z1, z2⟩
/-- a tuple is held -/
def pinT (B : Bs) (a : Addr) (xs : List V) (ds : List PyData) : Bs := ⟨B.h, (a, xs, ds) :: B.pn, B.ln, B.tn, B.zn⟩
theorem Env.pinT (E : Env K w H0 H σ ρ) (s : SqT K H p xs) (t : TpAll K H xs ds) : Env K w (pinT H0 p xs ds) H σ ρ :=
  ⟨E.kp, fun r hr => by
    rcases List.mem_cons.mp hr with rfl | hr
    · exact ⟨s, t⟩
    · exact E.pin r hr, E.lin, E.wok, E.len, E.sl, E.sep, E.tq, E.zin⟩
theorem Env.unpin (E : Env K w (Vd.pinT H0 p xs ds) H σ ρ) : Env K w H0 H σ ρ := ⟨E.kp, fun r hr => E.pin r (List.mem_cons_of_mem _ hr), E.lin, E.wok, E.len, E.sl, E.sep, E.tq, E.zin⟩
theorem Env.pinned (E : Env K w (Vd.pinT H0 p xs ds) H σ ρ) : SqT K H p xs ∧ TpAll K H xs ds := E.pin _ List.mem_cons_self
end
section
variable {K : Fr} {w : WA} {ρ : Rho} {te tl : TE} {R : Rt} {N : Rho → Prop} {tu : TS} {g : TG} {ds es : List PyData} {Ss : List PyData → Prop}
/-- for x in [..]: the list has no name -/
theorem run_forN (h : EvL K w tl ρ Ss) (I : List PyData → Nat → Rho → Prop) (h0 : ∀ ds, Ss ds → I ds 0 ρ) (hs : ∀ (ds : List PyData) (j : Nat) d ρ', Ss ds → ds[j]? = some d → I ds j ρ' → ∃ ρ1, Tg K w g d ρ' ρ1 ∧ Run K w tu ρ1 R (fun ρ2 => I ds (j + 1) ρ2)) (hd : ∀ ds ρ', Ss ds → I ds ds.length ρ' → N ρ') :
    Run K w (tFor (iList K tl) g tu) ρ R N := fun D σ H0 H E r nx =>
  h σ H0 H E _ fun p xs ds H1 g1 sd n0 h1 t1 => by
    have z0 := E.fresh0 n0
    have F := E.hold g1 n0 h1 t1
    have l0 : ∀ q : Addr × List V × List PyData, q ∈ H0.ln ++ H0.tn → SqL K H0.h q.1 q.2.1 := fun q hq => (E.lin q hq).1
    have up : ∀ {H' : Hp}, Go w (hold H0 p xs ds).h H' → Go w H0.h H' := fun gg => ⟨(Kp.new z0).trans gg.1, gg.2⟩
    refine ⟨p, rfl, ⟨xs, .inl (.inl h1)⟩, for_list (xs := xs) (fun j σ' H' => ∃ ρ', I ds j ρ' ∧ Env K w (hold H0 p xs ds) H' σ' ρ') ⟨ρ, h0 ds sd, F⟩ (fun j σ' H' _ hz => ?_) (fun j x σ' H' hx hz => ?_) fun σ' H' hz => ?_⟩
    · obtain ⟨ρ', _, E'⟩ := hz
      exact E'.held.1
    · obtain ⟨ρ', pI, E'⟩ := hz
      obtain ⟨d, hd1, td⟩ := E'.held.2.getv hx
      obtain ⟨ρ1, tgt, ru⟩ := hs ds j d ρ' sd hd1 pI
      refine tgt x σ' _ H' _ E' td fun σ2 H2 _ E2 => ru _ σ2 _ H2 E2 ⟨fun v d H' gg rd td => r.1 v d H' (up gg) rd td, fun q ys es H' gg rl hq hy ty => r.2 q ys es H' (up gg) rl ?_ hy ty⟩ fun σ3 ρ3 H3 E3 q => ⟨ρ3, q, E3⟩
      have hq' : upd H0.h p (.lst xs) q = none := hq
      have ne : q ≠ p := fun z => by rw [z, upd_same] at hq'; cases hq'
      rw [upd_ne ne] at hq'
      exact hq'
    · obtain ⟨ρ', pI, E'⟩ := hz
      exact nx σ' ρ' H' (E'.letgo z0 l0) (hd ds ρ' sd (by rw [← t1.length]; exact pI))
theorem walk_m {t u : Bool} {a b : Addr} {xs ys : List V} {n : Nat} (hn : n = min xs.length ys.length) : Walk (Itm K t u a b) n (fun H => Sq K t H a xs ∧ Sq K u H b ys) (YPair (fun i => xs[i]?) (fun i => ys[i]?)) := by
  subst hn
  refine ⟨fun i _ hi q => ⟨xs, ys, xs[i]'(by omega), ys[i]'(by omega), q.1, q.2, List.getElem?_eq_getElem _, List.getElem?_eq_getElem _⟩, fun _ q => ⟨xs, ys, q.1, q.2, rfl⟩, fun i H v H' _ q y => ?_⟩
  obtain ⟨T, x, z, h1, h2, h3, h4, h5⟩ := y
  exact ⟨T, x, z, h1, h2, h3, h4 xs q.1, h5 ys q.2⟩
end
end Vd
set_option Elab.async false
set_option linter.all false
set_option maxRecDepth 100000
set_option maxHeartbeats 4000000
/-! more of the layer: equality of what is not known, range(a, b), comprehensions over lists, filters, a def that tells a tuple with a new list -/
namespace Vd
open PySem PySem.Spec PyProof.Rows L2
theorem ix_tupK {X : Cx} {K : Fr} (e : X.K = K) : IxR X (rIxT K) := e ▸ ix_tup
theorem op_eqDK {X : Cx} {K : Fr} (e : X.K = K) (hu : X.A.units + 64 < cLine) : OpR X (compareOp .Eq) (rEqD K) := e ▸ op_eqD hu
theorem op_neDK {X : Cx} {K : Fr} (e : X.K = K) (hu : X.A.units + 64 < cLine) : OpR X (compareOp .NotEq) (rNeD K) := e ▸ op_neD hu
section
variable {K : Fr} {w : WA} {ρ : Rho} {te ta tb tl : TE} {S : PyData → Prop} {R : Rt} {N : Rho → Prop} {tu ts : TS} {g : TG} {ds : List PyData} {vs : List Nat}
/-- == of an int that is not known -/
theorem ev_eqI {P : Int → Prop} {j : Int} (ha : EvD K w ta ρ (IntP P)) (hb : EvD K w tb ρ (Is (.int j))) : EvD K w (tOp (rEqD K) ta tb) ρ (fun d => ∃ b, d = .bool b) :=
  ev_op ha hb fun a' b' ⟨i, ea, _⟩ eb x y H k tx ty Q q => by
    subst ea
    rw [eb] at ty
    exact ⟨_, _, tx.dp rfl, ty.dp rfl, rfl, rfl, q _ _ H (Go.refl k) ⟨_, rfl⟩ (.bl _)⟩
/-- for x in range(a, b) -/
theorem run_forR2 {tc : TA} {j : Nat} {lo hi : Int} (h : EvA K w tc ρ (Is [.int lo, .int hi])) (hn : hi ≤ 2 ^ 60) (h0n : 0 ≤ lo ∧ lo ≤ hi) (I : Nat → Rho → Prop) (h0 : I 0 ρ) (hs : ∀ (i : Nat) ρ', (i : Int) < hi - lo → I i ρ' → Run K w tu (ρ'.set j (some (.d (.int (lo + (i : Int)))))) R (fun ρ2 => I (i + 1) ρ2)) (hd : ∀ ρ', I (hi - lo).toNat ρ' → N ρ') : Run K w (tFor (iRng2 tc) (gName j) tu) ρ R N := fun D σ H0 H E r nx =>
  h σ H0 H E _ fun vs ds H1 g s t => by
    cases (show ds = [.int lo, .int hi] from s)
    obtain ⟨v, u, rfl, tv, tu'⟩ := t.two
    rw [tv.inv_int, tu'.inv_int]
    refine ⟨lo, hi, rfl, ⟨by omega, by omega, by omega, by omega⟩, for_range (lo := lo) (n := (hi - lo).toNat) (fun i σ' H' => ∃ ρ', I i ρ' ∧ Env K w H0 H' σ' ρ') ⟨ρ, h0, E.go g⟩ (fun i σ' H' hi ⟨ρ', p, E'⟩ => ?_) fun σ' H' ⟨ρ', p, E'⟩ => nx σ' ρ' H' E' (hd ρ' p)⟩
    exact hs i ρ' (by omega) p _ (σ'.set j (some (.int (lo + (i : Int))))) H0 H' (E'.setd (.int _) j) r fun σ2 ρ2 H2 E2 q => ⟨ρ2, q, E2⟩
/-- a, b = e, [] -/
theorem run_parR {i j : Nat} (he : EvD K w te ρ S) (k : ∀ d, S d → Run K w tu ((ρ.set i (some (.d d))).set j (some (.own []))) R N) : Run K w (tSeq (tPar i j (tCons te (tCons (tLst tNil) tNil))) tu) ρ R N := fun D σ H0 H E r n => by
  show te σ H fun x H1 => tCons (tLst tNil) tNil σ H1 fun ys H2 => ∃ v u, x :: ys = [v, u] ∧ tu D ((σ.set i (some v)).set j (some u)) H2
  refine he σ H0 H E _ fun v d H1 g1 s1 t1 => ?_
  show tLst tNil σ H1 fun y H2 => ∃ a b, [v, y] = [a, b] ∧ tu D ((σ.set i (some a)).set j (some b)) H2
  have E1 := (E.go g1).setd t1 i
  refine el_nil σ H0 H1 (E.go g1) _ fun p xs ds H2 g2 s2 n2 h2 t2 => ?_
  cases (show ds = [] from s2)
  cases t2
  exact ⟨v, .ref p, rfl, k d s1 D _ H0 H2 (E1.setown g2 n2 h2 .nil j) r n⟩
/-! ### a def that tells a tuple of a new list and data -/
abbrev RtX : Type := List PyData → PyData → Prop
/-- what holds of such a tuple at T -/
def NewPair (K : Fr) (w : WA) (H : Hp) (S : RtX) (v : V) (H' : Hp) : Prop :=
  ∃ (T l : Addr) (xs : List V) (u : V) (ds : List PyData) (d : PyData), v = .ref T ∧ Go w H H' ∧ S ds d ∧ H T = none ∧ H l = none ∧ H' T = some (.tup [.ref l, u]) ∧ H' l = some (.lst xs) ∧ TpAll K H' xs ds ∧ Tp K H' u d
variable {Sx : RtX}
theorem run_set1L {i : Nat} {Ss : List PyData → Prop} (h : EvL K w te ρ Ss) (k : ∀ ds, Ss ds → N (ρ.set i (some (.own ds)))) : Run K w (tAsg te (gName i)) ρ R N := fun D σ H0 H E r n => h σ H0 H E _ fun p xs ds H1 g1 s1 n1 h1 t1 => n _ _ H1 (E.setown g1 n1 h1 t1 i) (k ds s1)
theorem NewPair.up {H : Hp} {p : Addr} {xs : List V} {v : V} {H' : Hp} (h0 : H p = none) (h : NewPair K w (upd H p (.lst xs)) Sx v H') : NewPair K w H Sx v H' := by
  obtain ⟨T, l, ys, u, ds, d, e, g, s, hT, hl, r⟩ := h
  have ne : ∀ {q : Addr}, upd H p (.lst xs) q = none → H q = none := fun {q} hq => by
    have n : q ≠ p := fun z => by rw [z, upd_same] at hq; cases hq
    rw [upd_ne n] at hq
    exact hq
  exact ⟨T, l, ys, u, ds, d, e, ⟨(Kp.new h0).trans g.1, g.2⟩, s, ne hT, ne hl, r⟩
end
end Vd
set_option Elab.async false
set_option linter.all false
set_option maxRecDepth 100000
set_option maxHeartbeats 4000000
/-! slices of tuples, comprehensions over range(a, b), augmented assignment of ints -/
namespace Vd
open PySem PySem.Spec PyProof.Rows L2
section
variable {K : Fr} {w : WA} {ρ : Rho} {te ta tb tl : TE} {S : PyData → Prop} {R : Rt} {N : Rho → Prop} {tu ts : TS} {g : TG} {ds : List PyData} {vs : List Nat}
/-- x op= e, ints -/
theorem run_aug {i : Nat} {f : Int → Int → Int} {n m : Int} (h : ρ[i]? = some (some (.d (.int n)))) (he : EvD K w te ρ (Is (.int m))) (k : N (ρ.set i (some (.d (.int (f n m)))))) : Run K w (tAug i te (ipI f)) ρ R N := fun D σ H0 H E r nx => by
  obtain ⟨v, ev, tv⟩ := E.gd h
  refine ⟨v, ev, he σ H0 H E _ fun y d H1 g1 s1 t1 => ?_⟩
  cases (show d = _ from s1)
  rw [tv.inv_int, t1.inv_int]
  exact ⟨n, m, rfl, rfl, nx _ _ H1 ((E.go g1).setd (.int _) i) k⟩
end
end Vd
set_option Elab.async false
set_option linter.all false
set_option maxRecDepth 100000
set_option maxHeartbeats 4000000
/-! a comprehension over zip of a tuple and a list that is read -/
namespace Vd
open PySem PySem.Spec PyProof.Rows L2
end Vd
set_option Elab.async false
set_option linter.all false
set_option maxRecDepth 100000
set_option maxHeartbeats 4000000
/-! comprehensions over range(n), also with draws; enumerate -/
namespace Vd
open PySem PySem.Spec PyProof.Rows L2
section
variable {K : Fr} {w : WA} {ρ : Rho} {te ta tb tl : TE} {S : PyData → Prop} {R : Rt} {N : Rho → Prop} {tu ts : TS} {g : TG} {ds : List PyData} {vs : List Nat}
/-- [f(i) for i in range(n)] -/
theorem el_mapR {tc : TA} {n : Int} (f : Nat → PyData) (h : EvA K w tc ρ (Is [.int n])) (hn : n ≤ 1000) (h0 : 0 ≤ n) (ht : ∀ i : Nat, (i : Int) < n → ∃ ρ1, Tc K w g vs (.int (i : Int)) (wipeR ρ vs) ρ1 ∧ EvD K w te ρ1 (Is (f i))) :
    EvL K w (tLc (iRng1 tc) g tYes te vs) ρ (Is ((List.range n.toNat).map f)) := fun σ H0 H E Q q =>
  h σ H0 H E _ fun us es H1 g1 s1 t1 => by
    cases (show es = _ from s1)
    obtain ⟨v, rfl, tv⟩ := t1.one
    rw [tv.inv_int]
    refine ⟨n, rfl, by omega, by omega, fun Dl hD => ?_⟩
    have nD : w ≠ some Dl := nw_of (H' := H) g1.2 hD
    refine lc_range (lo := 0) (n := n.toNat) (g := g) (tt := tYes) (te := te) (vs := vs) (σ := σ) (H1 := H1) (D := Dl) (Qd := fun H' => Q (.ref Dl) H') (fun i H' => Go w H1 H' ∧ ∃ ys, H' Dl = some (.lst ys) ∧ TpAll K H' ys ((List.range i).map f)) ⟨Go.new g1.2 hD, [], upd_same, .nil⟩ (fun i H' hi hP => ?_) fun H' hP => ?_
    · obtain ⟨gg, ys, hy, ty⟩ := hP
      obtain ⟨ρ1, tc, ev⟩ := ht i (by omega)
      have E' := ((E.go g1).go gg).wipe vs
      rw [show (0 : Int) + (i : Int) = (i : Int) by omega]
      refine tc _ σ H0 H' _ E' (.int _) fun σ' E2 we => ⟨we, ?_⟩
      refine iteT (B := Go w H1 H' ∧ ∃ ys, H' Dl = some (.lst ys) ∧ TpAll K H' ys ((List.range (i + 1)).map f)) (ev σ' H0 H' E2 _ fun u e H2 g2 s2 t2 => ?_)
      cases (show e = _ from s2)
      have hy2 := g2.1 Dl _ nD hy
      have ty2 := ty.go gg.2 g2
      refine ⟨ys, hy2, Evl.sz_lt (by rw [ty.length, List.length_map, List.length_range]; omega), ⟨(gg.trans g2).1.chg hD (lst_no hy2), fun b z => ?_⟩, ys ++ [u], upd_same, ?_⟩
      · obtain ⟨x1, y1, z1, k1⟩ := g2.2 b z
        exact ⟨x1, y1, z1, by rw [upd_ne (fun q => nD (by rw [← q]; exact z))]; exact k1⟩
      · rw [List.range_succ, List.map_append]
        exact (ty2.append (.cons t2 .nil)).wr hy2
    · obtain ⟨gg, ys, hy, ty⟩ := hP
      exact q Dl ys _ H' (g1.trans gg) rfl (fresh_go g1.2 g1.1 hD) hy ty
theorem TpAll.three {H : Hp} {vs : List V} {d e f : PyData} (h : TpAll K H vs [d, e, f]) : ∃ v u x, vs = [v, u, x] ∧ Tp K H v d ∧ Tp K H u e ∧ Tp K H x f := by
  cases h with
  | cons h1 h2 =>
    obtain ⟨u, x, rfl, h3, h4⟩ := h2.two
    exact ⟨_, _, _, rfl, h1, h3, h4⟩
theorem run_par3 {i j l : Nat} {ta : TA} {Ss : List PyData → Prop} (h : EvA K w ta ρ Ss) (k : ∀ ds, Ss ds → ∃ d e f, ds = [d, e, f] ∧ Run K w tu (((ρ.set i (some (.d d))).set j (some (.d e))).set l (some (.d f))) R N) : Run K w (tSeq (tPar3 i j l ta) tu) ρ R N := fun D σ H0 H E r n => h σ H0 H E _ fun vs ds H' g s t => by
  obtain ⟨d, e, f, rfl, ru⟩ := k ds s
  obtain ⟨v, u, x, rfl, t1, t2, t3⟩ := TpAll.three t
  exact ⟨v, u, x, rfl, ru D _ H0 H' ((((E.go g).setd t1 i).setd t2 j).setd t3 l) r n⟩
/-- tuple(a list that has a name) -/
theorem ev_tupOwn {i : Nat} (h : LstAt ρ i ds) : EvD K w (tCB (fun xs H Q => ∃ p ys, xs = [.ref p] ∧ ((SqL K H p ys ∧ ∀ l, H l = none → Q (.ref l) (upd H l (.tup ys))) ∨ (SqT K H p ys ∧ Q (.ref p) H))) (tCons (tVar i) tNil)) ρ (Is (.tuple ds)) := fun σ H0 H E Q q => by
  obtain ⟨p, xs, e, sq, t, n⟩ := E.lst h
  refine ⟨.ref p, e, p, xs, rfl, .inl ⟨sq, fun l hl => ?_⟩⟩
  have gl := Go.new (o := .tup xs) E.wok hl
  exact q _ _ _ gl rfl (.tup (.inl (.inl upd_same)) (t.go E.wok gl))
end
end Vd
set_option Elab.async false
set_option linter.all false
set_option maxRecDepth 100000
set_option maxHeartbeats 4000000
/-! enumerate(a tuple or a list, start=k); comprehensions with a test over any walk -/
namespace Vd
open PySem PySem.Spec PyProof.Rows L2
/-- turn i of what is of kind t at a, counted from k -/
def Itn (K : Fr) (t : Bool) (k : Int) (a : Addr) : It where
  go := fun i H => ∃ (xs : List V) (x : V), Sq K t H a xs ∧ xs[i]? = some x
  yld := fun i H v H' => ∃ (T : Addr) (x : V), v = .ref T ∧ H T = none ∧ H' = upd H T (.tup [.int (k + (i : Int)), x]) ∧ ∀ xs, Sq K t H a xs → xs[i]? = some x
  stop := fun i H => ∃ xs : List V, Sq K t H a xs ∧ i = xs.length
theorem turn_n {P : Program} {w : World} {K : Fr} {elts : List Expr} {kk : Nat} {tpos : Pos} {t : Bool} {k : Int} {a e it : Addr} (hei : e ≠ it) (hea : e ≠ a) :
    Turn P w K (.Tuple elts kk tpos) (Itn K t k a) [e, it] e (fun i h => (∃ old, IsEnum h e it (k + (i : Int)) old) ∧ StepsOf t h it a i) where
  mem := List.mem_cons_self ..
  obj := fun i h ⟨⟨old, he⟩, s1⟩ b hb => by
    have e' : b = e ∨ b = it := by simpa using hb
    rcases e' with z | z
    · rw [z]; exact ⟨_, he, fun v q => nomatch q⟩
    · rw [z]; exact steps_obj s1
  keep := fun i h h' ⟨⟨old, he⟩, s1⟩ kk => ⟨⟨old, kk e (by simp) _ he⟩, steps_keep s1 fun o q => kk it (by simp) o q⟩
  item := by
    intro X hP hw hK hc i pins s σ H E I hf st ⟨xs, x, qa, hx⟩
    subst hP hw hK
    obtain ⟨hz, s1⟩ := st
    obtain ⟨us, ra, ca, la⟩ := cells_of I qa
    obtain ⟨p, hp, rp⟩ := ra.get hx
    have na : a ≠ it := apart_of s1 ca
    have hd : X.A.in1.handled = none := I.ok.hd hc
    have W := WalksT.enumFrom (prog := X.prog) (w := X.w) (A := X.A) k (draws_of hd t na us.toArray) e hei (by simp [hei, hea]) (by simp)
    have hi1 : i < us.length := (List.getElem?_eq_some_iff.mp hp).1
    refine W.item i s _ E (by simp only [List.size_toArray]; omega) ⟨hz, s1, ca⟩ fun T vals h1 tk hv hT tup mid k1 => ?_
    refine ⟨_, rfl, W.go elts kk tpos i T { s with heap := h1, toks := tk } _ E mid fun h2 st2 k2 => ?_⟩
    obtain ⟨t', p', ep, ev⟩ := hv
    have ep' : p' = p := by
      have e : us[i]? = some p' := by simpa using ep
      rw [hp] at e; exact (Option.some.inj e).symm
    subst ep' ev
    obtain ⟨o, ho, hcl, n, hda⟩ := tup
    have new : ObjOk X.prog X.w (upd H T (.tup [.int (k + (i : Int)), x])) h2 T (.tup [.int (k + (i : Int)), x]) :=
      ⟨by show 2 ≤ sizeLine; decide, [.int (k + (i : Int)) t', p'], .cons ⟨_, rfl⟩ (.cons rp .nil), ⟨o, k2 T o (W.apart i T h1 mid) ho, hcl, n, hda⟩⟩
    have I2 : Inv X pins σ (upd H T (.tup [.int (k + (i : Int)), x])) { s with heap := h2, toks := tk } :=
      I.turnedNew (ch := [e, it]) (fun c o hb q => k2 c o hb (k1 c o hb q)) hf hT new
    refine ⟨.ref T, _, I2, rfl, ⟨T, x, rfl, I.hok.fresh hT, rfl, fun l hl => by rw [sq_inj I hl qa]; exact hx⟩, ⟨st2.1, st2.2.1⟩, fun c hcm => ?_⟩
    have lt : c < s.heap.objs.size := by
      have e' : c = e ∨ c = it := by simpa using hcm
      rcases e' with z | z
      · rw [z]; obtain ⟨_, he⟩ := hz; exact Heap.lt_size he
      · rw [z]; exact Heap.lt_size (steps_obj s1).choose_spec.1
    rw [upd_ne (Nat.ne_of_lt (Nat.lt_of_lt_of_le lt hT))]
    exact (hf c hcm).1
  done := by
    intro X hP hw hK hc i pins s σ H E I hf st ⟨xs, qa, he⟩
    subst hP hw hK
    obtain ⟨hz, s1⟩ := st
    obtain ⟨us, ra, ca, la⟩ := cells_of I qa
    have na : a ≠ it := apart_of s1 ca
    have hd : X.A.in1.handled = none := I.ok.hd hc
    have W := WalksT.enumFrom (prog := X.prog) (w := X.w) (A := X.A) k (draws_of hd t na us.toArray) e hei (by simp [hei, hea]) (by simp)
    have en : us.toArray.size = i := by rw [List.size_toArray, ← ra.length, he]
    refine W.done s _ E (by rw [en]; exact ⟨hz, s1, ca⟩) fun h1 tk k1 => ⟨rfl, I.turnedL (ch := [e, it]) (fun c o hb q => k1 c o hb q) hf⟩
  self := fun A i s Q E st h => let ⟨⟨_, he⟩, _⟩ := st; wpAny_pyIter_enum he h
def iEn (K : Fr) (ta tk : TA) : TI := fun σ H R => ta σ H fun vs H1 => tk σ H1 fun zs H2 => ∃ (t : Bool) (a : Addr) (xs : List V) (k : Int), vs = [.ref a] ∧ zs = [.int k] ∧ (-(2 ^ 63) ≤ k ∧ k < 2 ^ 63) ∧ Sq K t H2 a xs ∧ R (Itn K t k a) H2
theorem pi_enS {X : Cx} {e : Expr} {kws : List Keyword} {ta tk : TA} {p pos tpos : Pos} {elts : List Expr} {kk : Nat} (hg : Gl X "enumerate") (hm : X.mg "enumerate" = none) (ha : PA X [e] ta) (hkw : PK X kws tk)
    (hall : (backToKw pos (keywordEach kws X.env)).all (·.1.isSome) = true := by rfl) (hks : (backToKw pos (keywordEach kws X.env)).filterMap (·.1) = [Str.ofString "start"] := by rfl)
    (hpl : ((backTo pos (starEach [e] X.env)).any (·.1) || (backToKw pos (keywordEach kws X.env)).any (·.1.isNone)) = false := by rfl) (he : starEach [e] X.env = (false, eval e X.env) :: starEach [] X.env := by rfl) :
    PI X (.Tuple elts kk tpos) (.Call (.Name "enumerate" p) [e] kws pos) (iEn X.K ta tk) := by
  refine ⟨fun pins s σ H R I h => ?_⟩
  refine wpAny_Call_Name_kw (ld_blt I hg hm boot_enumerate ?_)
  refine PySem.W.callWith_of (P := fun _ => True) hpl (fun h _ => ⟨Keeper.machine, .inr (.inl rfl), PySem.W.Looks.of_pure rfl⟩) (PyProof.Rows.evalArgs_kw2 hall (thn (ha.run pos pins s σ H _ I h) fun us s1 ⟨vs, H1, I1, r1, q1⟩ => thn (hkw.run pos pins s1 σ H1 _ I1 q1) fun ws s2 ⟨zs, H2, I2, r2, q2⟩ => ⟨trivial, ?_⟩) he)
  obtain ⟨t, a, xs, k, ev, ez, hk, qa, q⟩ := q2
  subst ev ez
  obtain _ | ⟨ra, r1'⟩ := r1
  cases r1'
  obtain _ | ⟨rz, r2'⟩ := r2
  cases r2'
  cases ra
  obtain ⟨tz, rfl⟩ := rz
  rw [hks]
  obtain ⟨cs, va, ca, la⟩ := cells_of I2 qa
  refine enum_begins_start (begins_of t a cs.toArray) ca hk.1 hk.2 fun h' hen hit hsz kp => wpAny_pyIter_enum hen ?_
  have I3 : Inv X pins σ H2 { s2 with heap := h' } := I2.kept (t' := s2.toks) kp
  have fp : ∀ b ∈ [s2.heap.objs.size + 1, s2.heap.objs.size], FpOk X pins H2 b := fun b hb => by
    have e' : b = s2.heap.objs.size + 1 ∨ b = s2.heap.objs.size := by simpa using hb
    have hle : s2.heap.objs.size ≤ b := by
      rcases e' with z | z
      · rw [z]; exact Nat.le_add_right _ _
      · rw [z]; exact Nat.le_refl _
    exact I2.fpOk hle (I2.hok.fresh hle)
  refine ⟨s2.heap.objs.size + 1, [s2.heap.objs.size + 1, s2.heap.objs.size], _, _, H2, rfl, I3, turn_n (t := t) (k := k) (a := a) (Nat.succ_ne_self _) (fun z => ?_), ⟨⟨.none, ?_⟩, steps_of hit⟩, fp, q⟩
  · rw [← z] at la
    exact absurd la (Nat.not_lt.mpr (Nat.le_succ _))
  · rw [show k + ((0 : Nat) : Int) = k by omega]
    exact hen
section
variable {K : Fr} {w : WA} {ρ : Rho} {te ta tb tl : TE} {tt : TT} {S : PyData → Prop} {R : Rt} {N : Rho → Prop} {tu ts : TS} {g : TG} {ds : List PyData} {vs : List Nat}
/-- a comprehension over any walk of data -/
theorem lc_data {J : It} {n : Nat} {G : Hp → Prop} {Y : Nat → Hp → V → Hp → Prop} (W : Walk J n G Y) (item : Nat → PyData) (hy : ∀ i H x H', i < n → Wok w H → G H → Y i H x H' → Go w H H' ∧ Tp K H' x (item i))
    (gs : ∀ H H', Wok w H → G H → Go w H H' → G H') (p : Nat → Bool) (f : Nat → PyData)
    (ht : ∀ i, i < n → ∃ ρ1, Tc K w g vs (item i) (wipeR ρ vs) ρ1 ∧ EvT K w tt ρ1 (Is (p i)) ∧ (p i = true → EvD K w te ρ1 (Is (f i)))) (hn : n ≤ 100000)
    {H0 : Bs} {H1 : Hp} {σ : L2.St} {D : Addr} {Qd : Hp → Prop} (E : Env K w H0 H1 σ ρ) (hG : G H1) (hD : H1 D = none)
    (q : ∀ zs H', Go w H1 H' → H' D = some (.lst zs) → TpAll K H' zs (((List.range n).filter p).map f) → Qd H') :
    ∃ W : Nat → Nat → Hp → Prop, (∃ m, W 0 m (upd H1 D (.lst []))) ∧ ∀ i m H, W i m H →
      (J.stop i H ∧ Qd H) ∨ (J.go i H ∧ ∃ Nx : Hp → Prop, (∀ H', Nx H' → ∃ m', m' < m ∧ W (i + 1) m' H') ∧ ∀ x H', J.yld i H x H' → g x (L2.wipe σ vs) H' fun σ2 H2 => L2.wipe σ2 vs = L2.wipe σ vs ∧ tt σ2 H2 fun b H3 =>
        if b = true then te σ2 H3 fun y H4 => ∃ acc, H4 D = some (.lst acc) ∧ acc.length < sizeLine ∧ Nx (upd H4 D (.lst (acc ++ [y]))) else Nx H3) := by
  have nD : w ≠ some D := nw_of (H' := H1) E.wok hD
  refine lc_it W (Pv := fun i H' => Go w H1 H' ∧ ∃ zs, H' D = some (.lst zs) ∧ TpAll K H' zs (((List.range i).filter p).map f)) ⟨Go.new E.wok hD, [], upd_same, .nil⟩ (fun i H' _ hP => gs H1 H' E.wok hG hP.1) (fun i x H' H'' hi hP hyy => ?_) fun H' ⟨gg, zs, hz, tz⟩ => q zs H' gg hz tz
  obtain ⟨gg, zs, hzs, tz⟩ := hP
  obtain ⟨gy, tx⟩ := hy i H' x H'' hi gg.2 (gs H1 H' E.wok hG gg) hyy
  obtain ⟨ρ1, tc, et, ev⟩ := ht i hi
  have E' := ((E.go gg).go gy).wipe vs
  have hz2 := gy.1 D _ nD hzs
  have tz2 := tz.go gg.2 gy
  have len : ((List.range i).filter p).length ≤ i := by
    have := List.length_filter_le p (List.range i)
    rw [List.length_range] at this
    exact this
  refine tc x σ H0 H'' _ E' tx fun σ' E2 we => ⟨we, et σ' H0 H'' E2 _ fun b H3 g3 s3 => ?_⟩
  have gx := (gg.trans gy).trans g3
  have hz3 := g3.1 D _ nD hz2
  have tz3 := tz2.go gy.2 g3
  cases (show b = p i from s3)
  cases hb : p i with
  | false =>
    refine iteF ⟨gx, zs, hz3, ?_⟩
    rw [List.range_succ, List.filter_append, List.filter_cons_of_neg (by rw [hb]; exact Bool.false_ne_true), List.filter_nil, List.append_nil]
    exact tz3
  | true =>
    refine iteT (ev hb σ' H0 H3 (E2.go g3) _ fun u e H4 g4 s4 t4 => ?_)
    cases (show e = _ from s4)
    have hy4 := g4.1 D _ nD hz3
    have ty4 := tz3.go g3.2 g4
    refine ⟨zs, hy4, Evl.sz_lt (by rw [tz.length, List.length_map]; omega), ⟨(gx.trans g4).1.chg hD (lst_no hy4), fun b z => ?_⟩, zs ++ [u], upd_same, ?_⟩
    · obtain ⟨x1, y1, z1, k1⟩ := g4.2 b z
      exact ⟨x1, y1, z1, by rw [upd_ne (fun q => nD (by rw [← q]; exact z))]; exact k1⟩
    · rw [List.range_succ, List.filter_append, List.filter_cons_of_pos hb, List.filter_nil, List.map_append]
      exact (ty4.append (.cons t4 .nil)).wr hy4
theorem filter_all {n : Nat} {p : Nat → Bool} (h : ∀ i, p i = true) : (List.range n).filter p = List.range n := List.filter_eq_self.mpr fun i _ => h i
theorem et_yes : EvT K w tYes ρ (Is true) := fun σ H0 H E Q q => q true H (Go.refl E.wok) rfl
theorem walk_n {t : Bool} {a : Addr} {k : Int} {xs : List V} : Walk (Itn K t k a) xs.length (fun H => Sq K t H a xs) (fun i H v H' => ∃ (T : Addr) (x : V), v = .ref T ∧ H T = none ∧ H' = upd H T (.tup [.int (k + (i : Int)), x]) ∧ xs[i]? = some x) :=
  ⟨fun i _ hi q => ⟨xs, xs[i], q, by simp [hi]⟩, fun _ q => ⟨xs, q, rfl⟩, fun i H v H' _ q y => by
    obtain ⟨T, x, h1, h2, h3, h4⟩ := y
    exact ⟨T, x, h1, h2, h3, h4 xs q⟩⟩
/-- [f(j, x) for j, x in enumerate(a tuple, start=k) if p] -/
theorem el_compE {tk : TE} {k : Int} (p : Nat → Bool) (f : Nat → PyData) (h : EvD K w tl ρ (Is (.tuple ds))) (hk : EvD K w tk ρ (Is (.int k))) (kb : -(2 ^ 63) ≤ k ∧ k < 2 ^ 63) (hz : ds.length ≤ 1000)
    (ht : ∀ (i : Nat) d, ds[i]? = some d → ∃ ρ1, Tc K w g vs (.tuple [.int (k + (i : Int)), d]) (wipeR ρ vs) ρ1 ∧ EvT K w tt ρ1 (Is (p i)) ∧ (p i = true → EvD K w te ρ1 (Is (f i)))) :
    EvL K w (tLc (iEn K (tCons tl tNil) (tCons tk tNil)) g tt te vs) ρ (Is (((List.range ds.length).filter p).map f)) := fun σ H0 H E Q q =>
  h σ H0 H E _ fun v d H1 g1 s1 t1 => by
    cases (show d = _ from s1)
    obtain ⟨a, xs, rfl, sq, al⟩ := t1.inv_tup
    refine hk σ H0 H1 (E.go g1) _ fun z d2 H2 g2 s2 t2 => ?_
    cases (show d2 = _ from s2)
    rw [t2.inv_int]
    have E2 := (E.go g1).go g2
    have sq2 := sqT_go g1.2 g2 sq
    have al2 := al.go g1.2 g2
    refine ⟨true, a, xs, k, rfl, rfl, kb, sq2, fun Dl hD => ?_⟩
    have el := al.length
    refine lc_data ((walk_n (K := K) (t := true) (a := a) (k := k) (xs := xs)).mono (G' := fun H => SqT K H a xs ∧ TpAll K H xs ds) (fun H h => h.1) fun i H x H' _ _ y => y) (fun i => .tuple [.int (k + (i : Int)), ds.getD i .none]) (fun i H x H' hi wk hG hY => ?_) (fun H H' wk hG gg => ⟨sqT_go wk gg hG.1, hG.2.go wk gg⟩) p f (fun i hi => ?_) (by omega) E2 ⟨sq2, al2⟩ hD fun zs H' gg hz tz => ?_
    · obtain ⟨T, x, rfl, hT, rfl, hx⟩ := hY
      have gn := Go.new (o := .tup [.int (k + (i : Int)), x]) wk hT
      refine ⟨gn, .tup (.inl (.inl upd_same)) (.cons (.int _) (.cons ?_ .nil))⟩
      obtain ⟨d', hd', td⟩ := hG.2.getv hx
      rw [show ds.getD i .none = d' by rw [List.getD_eq_getElem?_getD, hd']; rfl]
      exact td.go wk gn
    · have hi' : i < ds.length := by omega
      have hd : ds[i]? = some ds[i] := List.getElem?_eq_getElem hi'
      rw [show ds.getD i .none = ds[i] by rw [List.getD_eq_getElem?_getD, hd]; rfl]
      exact ht i _ hd
    · rw [el] at tz
      exact q Dl zs _ H' ((g1.trans g2).trans gg) rfl (fresh_go (g1.trans g2).2 (g1.trans g2).1 hD) hz tz
/-- [f(x) for x in a tuple if p(x)] -/
theorem el_compT (p : Nat → Bool) (f : Nat → PyData) (h : EvD K w tl ρ (Is (.tuple ds))) (hz : ds.length ≤ 1000)
    (ht : ∀ (i : Nat) d, ds[i]? = some d → ∃ ρ1, Tc K w g vs d (wipeR ρ vs) ρ1 ∧ EvT K w tt ρ1 (Is (p i)) ∧ (p i = true → EvD K w te ρ1 (Is (f i)))) :
    EvL K w (tLc (iTup K tl) g tt te vs) ρ (Is (((List.range ds.length).filter p).map f)) := fun σ H0 H E Q q =>
  h σ H0 H E _ fun v d H1 g1 s1 t1 => by
    cases (show d = _ from s1)
    obtain ⟨a, xs, rfl, sq, al⟩ := t1.inv_tup
    refine ⟨a, rfl, ⟨xs, sq⟩, fun Dl hD => ?_⟩
    have el := al.length
    refine lc_data ((walk_tup (K := K) (a := a) (xs := xs)).mono (G' := fun H => SqT K H a xs ∧ TpAll K H xs ds) (fun H h => h.1) fun i H x H' _ _ y => y) (fun i => ds.getD i .none) (fun i H x H' hi wk hG hY => ?_) (fun H H' wk hG gg => ⟨sqT_go wk gg hG.1, hG.2.go wk gg⟩) p f (fun i hi => ?_) (by omega) (E.go g1) ⟨sq, al⟩ hD fun zs H' gg hz tz => ?_
    · obtain ⟨rfl, hx⟩ := hY
      obtain ⟨d', hd', td⟩ := hG.2.getv hx
      rw [show ds.getD i .none = d' by rw [List.getD_eq_getElem?_getD, hd']; rfl]
      exact ⟨Go.refl wk, td⟩
    · have hi' : i < ds.length := by omega
      have hd : ds[i]? = some ds[i] := List.getElem?_eq_getElem hi'
      rw [show ds.getD i .none = ds[i] by rw [List.getD_eq_getElem?_getD, hd]; rfl]
      exact ht i _ hd
    · rw [el] at tz
      exact q Dl zs _ H' (g1.trans gg) rfl (fresh_go g1.2 g1.1 hD) hz tz
/-- [f(i) for i in range(n) if p(i)] -/
theorem el_compR {tc : TA} {n : Int} (p : Nat → Bool) (f : Nat → PyData) (h : EvA K w tc ρ (Is [.int n])) (hn : n ≤ 1000) (h0 : 0 ≤ n)
    (ht : ∀ i : Nat, (i : Int) < n → ∃ ρ1, Tc K w g vs (.int (i : Int)) (wipeR ρ vs) ρ1 ∧ EvT K w tt ρ1 (Is (p i)) ∧ (p i = true → EvD K w te ρ1 (Is (f i)))) :
    EvL K w (tLc (iRng1 tc) g tt te vs) ρ (Is (((List.range n.toNat).filter p).map f)) := fun σ H0 H E Q q =>
  h σ H0 H E _ fun us es H1 g1 s1 t1 => by
    cases (show es = _ from s1)
    obtain ⟨v, rfl, tv⟩ := t1.one
    rw [tv.inv_int]
    refine ⟨n, rfl, by omega, by omega, fun Dl hD => ?_⟩
    refine lc_data (walk_range (lo := 0) (n := n.toNat)) (fun i => .int (i : Int)) (fun i H x H' hi wk hG hY => ?_) (fun H H' wk hG gg => trivial) p f (fun i hi => ht i (by omega)) (by omega) (E.go g1) trivial hD fun zs H' gg hz tz => ?_
    · obtain ⟨rfl, rfl⟩ := hY
      dsimp only
      rw [show (0 : Int) + (i : Int) = (i : Int) by omega]
      exact ⟨Go.refl wk, .int _⟩
    · exact q Dl zs _ H' (g1.trans gg) rfl (fresh_go g1.2 g1.1 hD) hz tz
/-- [f(x) for x in a list that has a name if p(x)] -/
theorem el_compL {i0 : Nat} (p : Nat → Bool) (f : Nat → PyData) (h : LstAt ρ i0 ds) (hz : ds.length ≤ 1000)
    (ht : ∀ (i : Nat) d, ds[i]? = some d → ∃ ρ1, Tc K w g vs d (wipeR ρ vs) ρ1 ∧ EvT K w tt ρ1 (Is (p i)) ∧ (p i = true → EvD K w te ρ1 (Is (f i)))) :
    EvL K w (tLc (iList K (tVar i0)) g tt te vs) ρ (Is (((List.range ds.length).filter p).map f)) := fun σ H0 H E Q q => by
  obtain ⟨a, xs, e, sq, al, nw⟩ := E.lst h
  refine ⟨.ref a, e, a, rfl, ⟨xs, sq⟩, fun Dl hD => ?_⟩
  have el := al.length
  refine lc_data ((walk_list (K := K) (a := a) (xs := xs)).mono (G' := fun H => SqL K H a xs ∧ TpAll K H xs ds) (fun H h => h.1) fun i H x H' _ _ y => y) (fun i => ds.getD i .none) (fun i H x H' hi wk hG hY => ?_) (fun H H' wk hG gg => ⟨sqL_kp gg.1 nw hG.1, hG.2.go wk gg⟩) p f (fun i hi => ?_) (by omega) E ⟨sq, al⟩ hD fun zs H' gg hz tz => ?_
  · obtain ⟨rfl, hx⟩ := hY
    obtain ⟨d', hd', td⟩ := hG.2.getv hx
    rw [show ds.getD i .none = d' by rw [List.getD_eq_getElem?_getD, hd']; rfl]
    exact ⟨Go.refl wk, td⟩
  · have hi' : i < ds.length := by omega
    have hd : ds[i]? = some ds[i] := List.getElem?_eq_getElem hi'
    rw [show ds.getD i .none = ds[i] by rw [List.getD_eq_getElem?_getD, hd]; rfl]
    exact ht i _ hd
  · rw [el] at tz
    exact q Dl zs _ H' gg rfl (fresh_go E.wok (Kp.refl _ _) hD) hz tz
theorem idx_filter {α β : Type} (l : List α) (d : α) (p : α → Bool) (g : α → β) : ((List.range l.length).filter fun i => p (l.getD i d)).map (fun i => g (l.getD i d)) = (l.filter p).map g := by
  have e : (List.range l.length).map (fun i => l.getD i d) = l := by
    apply List.ext_getElem
    · simp
    · intro i h1 h2
      simp [h2]
  conv => rhs; rw [← e]
  rw [List.filter_map, List.map_map]
  rfl
end
end Vd
set_option Elab.async false
set_option linter.all false
namespace Mt
structure Pt where
  x : Int
  y : Int
  r : Int
def Pt.mul (P Q : Pt) : Pt := ⟨P.x * Q.x - P.y * Q.y, P.x * Q.y + P.y * Q.x, P.r * Q.r⟩
def Pt.conj (P : Pt) : Pt := ⟨P.x, 0 - P.y, P.r⟩
def Pt.one : Pt := ⟨1, 0, 1⟩
def Pt.pow (P : Pt) : Nat → Pt
  | 0 => Pt.one
  | n + 1 => (Pt.pow P n).mul P
structure Pt.Ok (P : Pt) : Prop where
  pos : 0 < P.r
  sq : P.x * P.x + P.y * P.y = P.r * P.r
def Sim (P Q : Pt) : Prop := P.x * Q.r = Q.x * P.r ∧ P.y * Q.r = Q.y * P.r
theorem mul_ok {P Q : Pt} (h : P.Ok) (k : Q.Ok) : (P.mul Q).Ok := by
  refine ⟨Int.mul_pos h.pos k.pos, ?_⟩
  have a := h.sq
  have b := k.sq
  simp only [Pt.mul]
  grind
theorem conj_ok {P : Pt} (h : P.Ok) : P.conj.Ok := ⟨h.pos, by have a := h.sq; simp only [Pt.conj]; grind⟩
theorem one_ok : Pt.one.Ok := ⟨by decide, by decide⟩
theorem pow_ok {P : Pt} (h : P.Ok) : ∀ n, (P.pow n).Ok
  | 0 => one_ok
  | n + 1 => mul_ok (pow_ok h n) h
theorem mul_comm (P Q : Pt) : P.mul Q = Q.mul P := by
  simp only [Pt.mul, Pt.mk.injEq]
  refine ⟨by grind, by grind, by grind⟩
theorem mul_assoc (P Q R : Pt) : (P.mul Q).mul R = P.mul (Q.mul R) := by
  simp only [Pt.mul, Pt.mk.injEq]
  refine ⟨by grind, by grind, by grind⟩
theorem one_mul (P : Pt) : Pt.one.mul P = P := by
  cases P
  simp only [Pt.mul, Pt.one, Pt.mk.injEq]
  refine ⟨by grind, by grind, by grind⟩
theorem mul_one (P : Pt) : P.mul Pt.one = P := by rw [mul_comm, one_mul]
theorem pow_add (P : Pt) (a : Nat) : ∀ b, P.pow (a + b) = (P.pow a).mul (P.pow b)
  | 0 => (mul_one _).symm
  | b + 1 => by
    show (P.pow (a + b)).mul P = (P.pow a).mul ((P.pow b).mul P)
    rw [pow_add P a b, mul_assoc]
theorem Sim.rfl (P : Pt) : Sim P P := ⟨Eq.refl _, Eq.refl _⟩
theorem Sim.symm {P Q : Pt} (h : Sim P Q) : Sim Q P := ⟨h.1.symm, h.2.symm⟩
theorem Sim.trans {P Q R : Pt} (q : 0 < Q.r) (h : Sim P Q) (k : Sim Q R) : Sim P R := by
  obtain ⟨h1, h2⟩ := h
  obtain ⟨k1, k2⟩ := k
  have nz : Q.r ≠ 0 := by omega
  constructor
  · apply Int.eq_of_mul_eq_mul_left nz; grind
  · apply Int.eq_of_mul_eq_mul_left nz; grind
theorem Sim.mul {P Q R S : Pt} (h : Sim P Q) (k : Sim R S) : Sim (P.mul R) (Q.mul S) := by
  obtain ⟨h1, h2⟩ := h
  obtain ⟨k1, k2⟩ := k
  simp only [Sim, Pt.mul]
  constructor <;> grind
theorem Sim.conj {P Q : Pt} (h : Sim P Q) : Sim P.conj Q.conj := by
  obtain ⟨h1, h2⟩ := h
  simp only [Sim, Pt.conj]
  constructor <;> grind
/-! ### reduced -/
def gc (n m : Int) : Int := ((Nat.gcd n.natAbs m.natAbs : Nat) : Int)
def red (n m : Int) : Int × Int := (n / gc n m, m / gc n m)
theorem gc_pos {n m : Int} (h : 0 < m) : 0 < gc n m := by
  have : 0 < Nat.gcd n.natAbs m.natAbs := Nat.gcd_pos_of_pos_right _ (by omega)
  unfold gc
  omega
theorem gc_dvd_l (n m : Int) : gc n m ∣ n := by
  have h := Nat.gcd_dvd_left n.natAbs m.natAbs
  unfold gc
  exact Int.ofNat_dvd_left.mpr h
theorem gc_dvd_r (n m : Int) : gc n m ∣ m := by
  have h := Nat.gcd_dvd_right n.natAbs m.natAbs
  unfold gc
  exact Int.ofNat_dvd_left.mpr h
theorem red_l (n m : Int) : gc n m * (red n m).1 = n := Int.mul_ediv_cancel' (gc_dvd_l n m)
theorem red_r (n m : Int) : gc n m * (red n m).2 = m := Int.mul_ediv_cancel' (gc_dvd_r n m)
theorem gc_scale {s n m : Int} (h : 0 < s) : gc (s * n) (s * m) = s * gc n m := by
  unfold gc
  rw [Int.natAbs_mul, Int.natAbs_mul, Nat.gcd_mul_left, Int.natCast_mul]
  congr 1
  omega
theorem red_scale {s n m : Int} (h : 0 < s) : red (s * n) (s * m) = red n m := by
  unfold red
  rw [gc_scale h, Int.mul_ediv_mul_of_pos _ _ h, Int.mul_ediv_mul_of_pos _ _ h]
theorem red_sim {n m n' m' : Int} (h : 0 < m) (h' : 0 < m') (e : n * m' = n' * m) : red n m = red n' m' := by
  have a : red (m' * n) (m' * m) = red n m := red_scale h'
  have b : red (m * n') (m * m') = red n' m' := red_scale h
  rw [← a, ← b, Int.mul_comm m' n, e, Int.mul_comm n' m, Int.mul_comm m' m]
theorem red_pos {n m : Int} (h : 0 < m) : 0 < (red n m).2 := by
  have e := red_r n m
  have g := gc_pos (n := n) h
  exact Int.pos_of_mul_pos_right (a := gc n m) (by rw [e]; exact h) (by omega)
theorem red_le {n m : Int} (h : 0 < m) : (red n m).2 ≤ m := Int.ediv_le_self _ (by omega)
theorem red_gc {n m : Int} (h : 0 < m) : gc (red n m).1 (red n m).2 = 1 := by
  have g := gc_pos (n := n) h
  have e : gc (gc n m * (red n m).1) (gc n m * (red n m).2) = gc n m * gc (red n m).1 (red n m).2 := gc_scale g
  rw [red_l, red_r] at e
  have : gc n m * 1 = gc n m * gc (red n m).1 (red n m).2 := by rw [Int.mul_one]; exact e
  exact (Int.eq_of_mul_eq_mul_left (by omega) this).symm
theorem red_abs {n m : Int} : (red n m).1.natAbs ≤ n.natAbs := by
  unfold red
  rw [Int.natAbs_ediv_of_dvd (gc_dvd_l n m)]
  exact Nat.div_le_self _ _
/-- a point's two numbers and its third one have the same greatest common divisor -/
theorem nat_sq {x y r : Nat} (h : x * x + y * y = r * r) : Nat.gcd x r = Nat.gcd y r := by
  have key : ∀ {x y r : Nat}, x * x + y * y = r * r → Nat.gcd x r ∣ y := fun {x y r} h => by
    have a := Nat.gcd_dvd_left x r
    have b := Nat.gcd_dvd_right x r
    have a2 : Nat.gcd x r ^ 2 ∣ x * x := by rw [Nat.pow_two]; exact Nat.mul_dvd_mul a a
    have b2 : Nat.gcd x r ^ 2 ∣ r * r := by rw [Nat.pow_two]; exact Nat.mul_dvd_mul b b
    have c : Nat.gcd x r ^ 2 ∣ y * y := (Nat.dvd_add_right a2).mp (h ▸ b2)
    rw [← Nat.pow_two] at c
    exact (Nat.pow_dvd_pow_iff (by decide)).mp c
  apply Nat.dvd_antisymm
  · exact Nat.dvd_gcd (key h) (Nat.gcd_dvd_right _ _)
  · exact Nat.dvd_gcd (key (by rw [Nat.add_comm]; exact h)) (Nat.gcd_dvd_right _ _)
theorem Pt.Ok.gc {P : Pt} (h : P.Ok) : gc P.x P.r = gc P.y P.r := by
  have e := h.sq
  unfold Mt.gc
  have : P.x.natAbs * P.x.natAbs + P.y.natAbs * P.y.natAbs = P.r.natAbs * P.r.natAbs := by
    have z : ((P.x.natAbs * P.x.natAbs + P.y.natAbs * P.y.natAbs : Nat) : Int) = ((P.r.natAbs * P.r.natAbs : Nat) : Int) := by
      rw [Int.natCast_add, Int.natAbs_mul_self, Int.natAbs_mul_self, Int.natAbs_mul_self]
      exact e
    exact Int.ofNat_inj.mp z
  rw [nat_sq this]
theorem Pt.Ok.gcneg {P : Pt} : Mt.gc (0 - P.y) P.r = Mt.gc P.y P.r := by
  unfold Mt.gc
  rw [show (0 - P.y).natAbs = P.y.natAbs by omega]
/-- the turn of a point: cosine and sine over one denominator -/
structure Tn where
  a : Int
  b : Int
  m : Int
def tn (P : Pt) : Tn := ⟨(red P.x P.r).1, (red P.y P.r).1, (red P.x P.r).2⟩
theorem tn_x (P : Pt) : red P.x P.r = ((tn P).a, (tn P).m) := rfl
theorem tn_y {P : Pt} (h : P.Ok) : red P.y P.r = ((tn P).b, (tn P).m) := by
  show ((red P.y P.r).1, (red P.y P.r).2) = ((red P.y P.r).1, (red P.x P.r).2)
  rw [show (red P.y P.r).2 = (red P.x P.r).2 by unfold red; rw [h.gc]]
theorem tn_eqs {P : Pt} (h : P.Ok) : ∃ g, 0 < g ∧ g * (tn P).a = P.x ∧ g * (tn P).b = P.y ∧ g * (tn P).m = P.r :=
  ⟨gc P.x P.r, gc_pos h.pos, red_l _ _, by rw [h.gc]; exact red_l _ _, red_r _ _⟩
theorem tn_pos {P : Pt} (h : P.Ok) : 0 < (tn P).m := red_pos h.pos
theorem tn_le {P : Pt} (h : P.Ok) : (tn P).m ≤ P.r := red_le h.pos
theorem tn_sq {P : Pt} (h : P.Ok) : (tn P).a * (tn P).a + (tn P).b * (tn P).b = (tn P).m * (tn P).m := by
  obtain ⟨g, gp, e1, e2, e3⟩ := tn_eqs h
  have e := h.sq
  rw [← e1, ← e2, ← e3] at e
  have nz : g * g ≠ 0 := by have := Int.mul_pos gp gp; omega
  apply Int.eq_of_mul_eq_mul_left nz
  grind
theorem tn_gcx {P : Pt} (h : P.Ok) : gc (tn P).a (tn P).m = 1 := red_gc h.pos
theorem tn_gcy {P : Pt} (h : P.Ok) : gc (tn P).b (tn P).m = 1 := by
  have e := red_gc (n := P.y) h.pos
  rw [tn_y h] at e
  exact e
theorem abs_le_of_sq {a b m : Int} (h : a * a + b * b = m * m) (hm : 0 ≤ m) : a.natAbs ≤ m.natAbs := by
  apply Classical.byContradiction
  intro z
  have lt : m.natAbs < a.natAbs := by omega
  have l2 : m.natAbs * m.natAbs < a.natAbs * a.natAbs := Nat.mul_lt_mul'' lt lt
  have c : ((m.natAbs * m.natAbs : Nat) : Int) < ((a.natAbs * a.natAbs : Nat) : Int) := Int.ofNat_lt.mpr l2
  rw [Int.natAbs_mul_self, Int.natAbs_mul_self] at c
  have p : 0 ≤ b * b := by
    have := Int.natAbs_mul_self (a := b)
    omega
  omega
theorem tn_abs {P : Pt} (h : P.Ok) : (tn P).a.natAbs ≤ (tn P).m.natAbs ∧ (tn P).b.natAbs ≤ (tn P).m.natAbs := by
  have s := tn_sq h
  have p := tn_pos h
  exact ⟨abs_le_of_sq s (by omega), abs_le_of_sq (b := (tn P).a) (by omega) (by omega)⟩
theorem pt_abs {P : Pt} (h : P.Ok) : P.x.natAbs ≤ P.r.natAbs ∧ P.y.natAbs ≤ P.r.natAbs := by
  have s := h.sq
  have p := h.pos
  exact ⟨abs_le_of_sq s (by omega), abs_le_of_sq (b := P.x) (by omega) (by omega)⟩
theorem tn_mul {P Q : Pt} (h : P.Ok) (k : Q.Ok) : red ((tn P).a * (tn Q).a - (tn P).b * (tn Q).b) ((tn P).m * (tn Q).m) = ((tn (P.mul Q)).a, (tn (P.mul Q)).m) ∧
    red ((tn P).a * (tn Q).b + (tn P).b * (tn Q).a) ((tn P).m * (tn Q).m) = ((tn (P.mul Q)).b, (tn (P.mul Q)).m) := by
  obtain ⟨g, gp, e1, e2, e3⟩ := tn_eqs h
  obtain ⟨l, lp, f1, f2, f3⟩ := tn_eqs k
  rw [← tn_x, ← tn_y (mul_ok h k)]
  have gl := Int.mul_pos gp lp
  constructor
  · rw [← red_scale gl]
    simp only [Pt.mul]
    rw [← e1, ← e2, ← e3, ← f1, ← f2, ← f3]
    congr 1 <;> grind
  · rw [← red_scale gl]
    simp only [Pt.mul]
    rw [← e1, ← e2, ← e3, ← f1, ← f2, ← f3]
    congr 1 <;> grind
theorem tn_conj {P : Pt} (h : P.Ok) : tn P.conj = ⟨(tn P).a, -(tn P).b, (tn P).m⟩ := by
  unfold tn Pt.conj red
  simp only [Tn.mk.injEq, true_and, and_true]
  rw [Pt.Ok.gcneg, Int.zero_sub, Int.neg_ediv_of_dvd (gc_dvd_l _ _)]
theorem tn_sim {P Q : Pt} (h : P.Ok) (k : Q.Ok) (s : Sim P Q) : tn P = tn Q := by
  have a := red_sim h.pos k.pos s.1
  have b := red_sim h.pos k.pos s.2
  rw [tn_x, tn_x] at a
  rw [tn_y h, tn_y k] at b
  cases e : tn P
  cases e' : tn Q
  rw [e, e'] at a b
  simp only [Prod.mk.injEq] at a b
  rw [a.1, a.2, b.1]
end Mt
set_option linter.all false
/-! fractions as rationals, waves at turns -/
namespace Mt
def rv (n m : Int) : Rat := (n : Rat) / (m : Rat)
theorem rv_mk {n m : Int} (h : 0 < m) : rv n m = mkRat n m.natAbs := by
  rw [Rat.mkRat_eq_div]
  unfold rv
  have e : ((m.natAbs : Nat) : Int) = m := by omega
  have e2 : ((m.natAbs : Nat) : Rat) = (m : Rat) := by rw [← Rat.intCast_natCast, e]
  rw [e2]
theorem red_rv {n m : Int} (h : 0 < m) : red n m = ((rv n m).num, ((rv n m).den : Int)) := by
  rw [rv_mk h]
  have hz : m.natAbs ≠ 0 := by omega
  rw [Rat.mkRat_def, dif_neg hz, Rat.normalize_eq]
  unfold red gc
  have e : ((m.natAbs : Nat) : Int) = m := by omega
  rw [Int.natCast_ediv, e]
theorem rv_self (x : Rat) : rv x.num x.den = x := by
  have p : (0 : Int) < (x.den : Int) := by have := x.den_pos; omega
  rw [rv_mk p, show ((x.den : Int)).natAbs = x.den by omega, Rat.mkRat_self]
theorem ne0 {m : Int} (h : 0 < m) : (m : Rat) ≠ 0 := by
  intro e
  have := Rat.intCast_inj.mp (e.trans Rat.intCast_zero.symm)
  omega
theorem rv_add {a b c d : Int} (h : 0 < b) (k : 0 < d) : rv a b + rv c d = rv (a * d + c * b) (b * d) := by
  have := ne0 h
  have := ne0 k
  unfold rv
  rw [Rat.intCast_add, Rat.intCast_mul, Rat.intCast_mul, Rat.intCast_mul]
  grind
theorem rv_mul {a b c d : Int} (h : 0 < b) (k : 0 < d) : rv a b * rv c d = rv (a * c) (b * d) := by
  have := ne0 h
  have := ne0 k
  unfold rv
  rw [Rat.intCast_mul, Rat.intCast_mul]
  grind
theorem den0 (x : Rat) : (0 : Int) < (x.den : Int) := by have := x.den_pos; omega
theorem add_red (x y : Rat) : red (x.num * y.den + y.num * x.den) (x.den * y.den) = ((x + y).num, ((x + y).den : Int)) := by
  rw [red_rv (Int.mul_pos (den0 x) (den0 y)), ← rv_add (den0 x) (den0 y), rv_self, rv_self]
theorem mul_red (x y : Rat) : red (x.num * y.num) (x.den * y.den) = ((x * y).num, ((x * y).den : Int)) := by
  rw [red_rv (Int.mul_pos (den0 x) (den0 y)), ← rv_mul (den0 x) (den0 y), rv_self, rv_self]
/-- a rational of a size -/
def Rb (n : Nat) (x : Rat) : Prop := x.num.natAbs < 2 ^ n ∧ x.den < 2 ^ n
theorem Rb.mono {n m : Nat} {x : Rat} (h : Rb n x) (k : n ≤ m) : Rb m x :=
  ⟨Nat.lt_of_lt_of_le h.1 (Nat.pow_le_pow_right (by decide) k), Nat.lt_of_lt_of_le h.2 (Nat.pow_le_pow_right (by decide) k)⟩
theorem rb_rv {k : Nat} {n m : Int} (h : 0 < m) (a : n.natAbs < 2 ^ k) (b : m.natAbs < 2 ^ k) : Rb k (rv n m) := by
  have e := red_rv (n := n) h
  have l := red_le (n := n) h
  have u := red_abs (n := n) (m := m)
  rw [e] at l u
  exact ⟨Nat.lt_of_le_of_lt u a, by have l' : ((rv n m).den : Int) ≤ m := l; omega⟩
theorem lt_pow_mul {a b n m : Nat} (h : a < 2 ^ n) (k : b < 2 ^ m) : a * b < 2 ^ (n + m) := by
  rw [Nat.pow_add]
  exact Nat.mul_lt_mul'' h k
theorem rb_add {n m : Nat} {x y : Rat} (h : Rb n x) (k : Rb m y) : Rb (n + m + 1) (x + y) := by
  rw [← rv_self x, ← rv_self y, rv_add (den0 x) (den0 y)]
  have a := lt_pow_mul h.1 k.2
  have b := lt_pow_mul k.1 h.2
  have c := lt_pow_mul h.2 k.2
  rw [Nat.add_comm m n] at b
  have p : 2 ^ (n + m + 1) = 2 ^ (n + m) * 2 := Nat.pow_succ ..
  refine rb_rv (Int.mul_pos (den0 x) (den0 y)) ?_ ?_
  · have t := Int.natAbs_add_le (x.num * y.den) (y.num * x.den)
    rw [Int.natAbs_mul, Int.natAbs_mul, Int.natAbs_natCast, Int.natAbs_natCast] at t
    omega
  · rw [Int.natAbs_mul, Int.natAbs_natCast, Int.natAbs_natCast]
    omega
theorem rb_mul {n m : Nat} {x y : Rat} (h : Rb n x) (k : Rb m y) : Rb (n + m) (x * y) := by
  rw [← rv_self x, ← rv_self y, rv_mul (den0 x) (den0 y)]
  refine rb_rv (Int.mul_pos (den0 x) (den0 y)) ?_ ?_
  · rw [Int.natAbs_mul]
    exact lt_pow_mul h.1 k.1
  · rw [Int.natAbs_mul, Int.natAbs_natCast, Int.natAbs_natCast]
    exact lt_pow_mul h.2 k.2
/-- cosine and sine of a point -/
def cs (P : Pt) : Rat := rv P.x P.r
def sn (P : Pt) : Rat := rv P.y P.r
theorem tn_cs {P : Pt} (h : P.Ok) : ((tn P).a, (tn P).m) = ((cs P).num, ((cs P).den : Int)) := by rw [← tn_x, red_rv h.pos]; rfl
theorem tn_sn {P : Pt} (h : P.Ok) : ((tn P).b, (tn P).m) = ((sn P).num, ((sn P).den : Int)) := by rw [← tn_y h, red_rv h.pos]; rfl
theorem cs_rb {P : Pt} (h : P.Ok) {n : Nat} (b : P.r.natAbs < 2 ^ n) : Rb n (cs P) ∧ Rb n (sn P) := by
  have q := pt_abs h
  exact ⟨rb_rv h.pos (Nat.lt_of_le_of_lt q.1 b) b, rb_rv h.pos (Nat.lt_of_le_of_lt q.2 b) b⟩
theorem pow_rr (p : Pt) : ∀ n, (p.pow n).r = p.r ^ n
  | 0 => by
    show (1 : Int) = _
    rw [Int.pow_zero]
  | n + 1 => by
    show (p.pow n).r * p.r = _
    rw [pow_rr p n, Int.pow_succ]
theorem pow_size {p : Pt} {b : Nat} (h : p.r.natAbs < 2 ^ b) {j : Nat} {c : Nat} (hj : b * j < c) : (p.pow j).r.natAbs < 2 ^ c := by
  rw [pow_rr, Int.natAbs_pow]
  calc p.r.natAbs ^ j ≤ (2 ^ b) ^ j := Nat.pow_le_pow_left (Nat.le_of_lt h) j
    _ = 2 ^ (b * j) := (Nat.pow_mul 2 b j).symm
    _ < 2 ^ c := Nat.pow_lt_pow_right (by decide) hj
theorem rb_zero {n : Nat} (h : 0 < n) : Rb n 0 := by
  have : 1 < 2 ^ n := Nat.one_lt_two_pow (by omega)
  exact ⟨by show 0 < 2 ^ n; omega, by show 1 < 2 ^ n; omega⟩
end Mt
set_option linter.all false
/-! a wave's numbers over one denominator, summed up at a point -/
namespace Mt
end Mt
set_option linter.all false
/-! noughts at a wave's end; waves added, mirrored, shifted -/
namespace Mt
abbrev Pr := Rat × Rat
def trimTo (L : List Pr) : Nat → Nat
  | 0 => 0
  | m + 1 => if L.getD m (0, 0) = (0, 0) then trimTo L m else m + 1
def trimR (L : List Pr) : List Pr := L.take (trimTo L L.length)
theorem trimTo_le (L : List Pr) : ∀ m, trimTo L m ≤ m
  | 0 => Nat.le_refl _
  | m + 1 => by
    unfold trimTo
    split
    · exact Nat.le_succ_of_le (trimTo_le L m)
    · exact Nat.le_refl _
theorem trimTo_last (L : List Pr) : ∀ m j, trimTo L m = j + 1 → L.getD j (0, 0) ≠ (0, 0)
  | 0, j, h => by cases h
  | m + 1, j, h => by
    unfold trimTo at h
    split at h
    · exact trimTo_last L m j h
    · rename_i z
      have e : m = j := by omega
      subst e
      exact z
/-- a list whose last one is no nought -/
def Ends (L : List Pr) : Prop := ∀ I l, L = I ++ [l] → l ≠ (0, 0)
theorem trimR_ends (L : List Pr) : Ends (trimR L) := fun I l e => by
  have le := trimTo_le L L.length
  have len := congrArg List.length e
  unfold trimR at len e
  rw [List.length_take, List.length_append, List.length_singleton, Nat.min_eq_left le] at len
  have z := trimTo_last L _ _ len
  have g : (L.take (trimTo L L.length))[I.length]? = some l := by rw [e, List.getElem?_append_right (Nat.le_refl _), Nat.sub_self]; rfl
  rw [List.getElem?_take] at g
  split at g
  · rw [List.getD_eq_getElem?_getD, g] at z
    exact z
  · cases g
theorem trimR_self {L : List Pr} (h : Ends L) : trimR L = L := by
  rcases List.eq_nil_or_concat L with rfl | ⟨I, l, rfl⟩
  · rfl
  · rw [List.concat_eq_append] at *
    have hl := h I l rfl
    unfold trimR
    have e : trimTo (I ++ [l]) (I ++ [l]).length = (I ++ [l]).length := by
      rw [List.length_append, List.length_singleton]
      unfold trimTo
      have g : (I ++ [l]).getD I.length (0, 0) = l := by rw [List.getD_eq_getElem?_getD, List.getElem?_append_right (Nat.le_refl _), Nat.sub_self]; rfl
      rw [g, if_neg hl]
    rw [e, List.take_length]
def mir (L : List Pr) : List Pr := L.map fun p => (p.1, -p.2)
theorem mir_ends {L : List Pr} (h : Ends L) : Ends (mir L) := fun I l e => by
  rcases List.eq_nil_or_concat L with rfl | ⟨J, a, rfl⟩
  · cases I <;> cases e
  · rw [List.concat_eq_append] at *
    unfold mir at e
    rw [List.map_append] at e
    have z := List.append_inj_right' e rfl
    have ha := h J a rfl
    intro q
    apply ha
    have e1 : (a.1, -a.2) = l := by simpa using z
    rw [q] at e1
    have h1 : a.1 = 0 := congrArg Prod.fst e1
    have h2 : -a.2 = 0 := congrArg Prod.snd e1
    exact Prod.ext h1 (by have : a.2 = 0 := by grind
                          exact this)
theorem mir_mir (L : List Pr) : mir (mir L) = L := by
  unfold mir
  rw [List.map_map]
  conv => rhs; rw [← List.map_id L]
  apply List.map_congr_left
  intro a _
  show (a.1, - -a.2) = a
  rw [Rat.neg_neg]
end Mt
set_option linter.all false
/-! the sizes of sums, for greater numbers -/
namespace Mt
/-! ### mirrored -/
end Mt
set_option linter.all false
/-! waves added and multiplied, their worths; harmonics -/
namespace Mt
theorem getD_of_le {L : List Pr} {j : Nat} (h : L.length ≤ j) : L.getD j (0, 0) = (0, 0) := by
  rw [List.getD_eq_getElem?_getD, List.getElem?_eq_none h]
  rfl
theorem trimTo_zero (L : List Pr) : ∀ m j, trimTo L m ≤ j → j < m → L.getD j (0, 0) = (0, 0)
  | 0, j, _, h => absurd h (Nat.not_lt_zero _)
  | m + 1, j, h, hj => by
    unfold trimTo at h
    split at h
    · rename_i z
      by_cases e : j = m
      · rw [e]; exact z
      · exact trimTo_zero L m j h (by omega)
    · omega
theorem trimR_get (L : List Pr) (j : Nat) : (trimR L).getD j (0, 0) = L.getD j (0, 0) := by
  unfold trimR
  rw [List.getD_eq_getElem?_getD, List.getElem?_take]
  split
  · rw [List.getD_eq_getElem?_getD]
  · rename_i h
    by_cases hl : j < L.length
    · exact (trimTo_zero L L.length j (by omega) hl).symm
    · exact (getD_of_le (by omega)).symm
theorem trimR_len (L : List Pr) : (trimR L).length ≤ L.length := by unfold trimR; rw [List.length_take]; omega
theorem mem_getD {L : List Pr} {p : Pr} (h : p ∈ L) : ∃ j, L.getD j (0, 0) = p := by
  obtain ⟨j, hj⟩ := List.mem_iff_getElem?.mp h
  exact ⟨j, by rw [List.getD_eq_getElem?_getD, hj]; rfl⟩
/-- each pair of a size, by its place -/
def Sz (n : Nat) (L : List Pr) : Prop := ∀ j, Rb n (L.getD j (0, 0)).1 ∧ Rb n (L.getD j (0, 0)).2
theorem Sz.of {n : Nat} {L : List Pr} (hn : 0 < n) (h : ∀ p ∈ L, Rb n p.1 ∧ Rb n p.2) : Sz n L := fun j => by
  rw [List.getD_eq_getElem?_getD]
  cases e : L[j]? with
  | none => exact ⟨rb_zero hn, rb_zero hn⟩
  | some p => exact h p (List.mem_of_getElem? e)
theorem Sz.mem {n : Nat} {L : List Pr} (h : Sz n L) : ∀ p ∈ L, Rb n p.1 ∧ Rb n p.2 := fun p hp => by
  obtain ⟨j, rfl⟩ := mem_getD hp
  exact h j
theorem Sz.trim {n : Nat} {L : List Pr} (h : Sz n L) : Sz n (trimR L) := fun j => by rw [trimR_get]; exact h j
theorem Sz.mono {n m : Nat} {L : List Pr} (h : Sz n L) (k : n ≤ m) : Sz m L := fun j => ⟨(h j).1.mono k, (h j).2.mono k⟩
end Mt
set_option linter.all false
/-! turned waves; sizes for any point -/
namespace Mt
/-! ### turned -/
theorem rne {P : Pt} (h : P.Ok) : (P.r : Rat) ≠ 0 := ne0 h.pos
theorem cs_mul {P Q : Pt} (h : P.Ok) (k : Q.Ok) : cs (P.mul Q) = cs P * cs Q - sn P * sn Q := by
  have := rne h
  have := rne k
  unfold cs sn rv Pt.mul
  dsimp only
  rw [Rat.intCast_sub, Rat.intCast_mul, Rat.intCast_mul, Rat.intCast_mul]
  grind
theorem sn_mul {P Q : Pt} (h : P.Ok) (k : Q.Ok) : sn (P.mul Q) = cs P * sn Q + sn P * cs Q := by
  have := rne h
  have := rne k
  unfold cs sn rv Pt.mul
  dsimp only
  rw [Rat.intCast_add, Rat.intCast_mul, Rat.intCast_mul, Rat.intCast_mul]
  grind
theorem cs_sn {P : Pt} (h : P.Ok) : cs P * cs P + sn P * sn P = 1 := by
  have a := rne h
  have e : (P.x : Rat) * P.x + (P.y : Rat) * P.y = (P.r : Rat) * P.r := by
    have z := congrArg (fun i : Int => (i : Rat)) h.sq
    simp only [Rat.intCast_add, Rat.intCast_mul] at z
    exact z
  unfold cs sn rv
  grind
theorem sn_conj (P : Pt) : sn P.conj = - sn P := by
  show ((0 - P.y : Int) : Rat) / (P.r : Rat) = - ((P.y : Rat) / (P.r : Rat))
  rw [Int.zero_sub, Rat.intCast_neg]
  generalize (P.y : Rat) = a
  generalize (P.r : Rat) = b
  grind
theorem one_pow : ∀ n, Pt.one.pow n = Pt.one
  | 0 => rfl
  | n + 1 => by
    show (Pt.one.pow n).mul Pt.one = Pt.one
    rw [mul_one, one_pow n]
theorem cs_one : cs Pt.one = 1 := by decide +kernel
theorem sn_one : sn Pt.one = 0 := by decide +kernel
end Mt
set_option linter.all false
/-! growth, bend, harmonics -/
namespace Mt
/-- the harmonics that a wave has, from 0 on -/
def harm (L : List Pr) : List Nat := (List.range L.length).filter fun i => decide (L.getD i (0, 0) ≠ (0, 0))
theorem range_filter_more {n m : Nat} (h : n ≤ m) {p : Nat → Bool} (hp : ∀ i, n ≤ i → p i = false) : (List.range m).filter p = (List.range n).filter p := by
  obtain ⟨k, rfl⟩ := Nat.le.dest h
  rw [List.range_add, List.filter_append]
  have e : ((List.range k).map (n + ·)).filter p = [] := by
    rw [List.filter_eq_nil_iff]
    intro i hi
    obtain ⟨j, _, rfl⟩ := List.mem_map.mp hi
    rw [hp _ (Nat.le_add_right _ _)]
    exact Bool.false_ne_true
  rw [e, List.append_nil]
theorem harm_upto (L : List Pr) {m : Nat} (h : L.length ≤ m) : (List.range m).filter (fun i => decide (L.getD i (0, 0) ≠ (0, 0))) = harm L :=
  range_filter_more h fun i hi => by rw [getD_of_le hi]; decide
theorem harm_congr {L M : List Pr} (h : ∀ j, L.getD j (0, 0) = (0, 0) ↔ M.getD j (0, 0) = (0, 0)) : harm L = harm M := by
  rw [← harm_upto L (Nat.le_max_left L.length M.length), ← harm_upto M (Nat.le_max_right L.length M.length)]
  apply List.filter_congr
  intro j _
  exact decide_eq_decide.mpr (not_congr (h j))
/-! ### growth and bend of waves -/
end Mt
set_option linter.all false
/-! the places that combinations tells: all of them, each once -/
namespace Mt
def nxp2 (n i j : Nat) : Option (List Nat) := if j + 1 < n then some [i, j + 1] else if i + 2 < n then some [i + 1, i + 2] else none
def nxp3 (n i j k : Nat) : Option (List Nat) := if k + 1 < n then some [i, j, k + 1] else if j + 2 < n then some [i, j + 1, j + 2] else if i + 3 < n then some [i + 1, i + 2, i + 3] else none
def nxL (n : Nat) : List Nat → Option (List Nat)
  | [i, j] => nxp2 n i j
  | [i, j, k] => nxp3 n i j k
  | _ => none
def plc (n r : Nat) : Nat → Option (List Nat)
  | 0 => if r ≤ n then some (List.range r) else none
  | i + 1 => (plc n r i).bind (nxL n)
/-- increasing, below n -/
def Inc2 (n : Nat) (l : List Nat) : Prop := ∃ i j, l = [i, j] ∧ i < j ∧ j < n
def Inc3 (n : Nat) (l : List Nat) : Prop := ∃ i j k, l = [i, j, k] ∧ i < j ∧ j < k ∧ k < n
def rk (n : Nat) : List Nat → Nat
  | [i, j] => i * n + j
  | [i, j, k] => (i * n + j) * n + k
  | _ => 0
theorem nx2_inc {n : Nat} {l m : List Nat} (h : Inc2 n l) (e : nxL n l = some m) : Inc2 n m ∧ rk n l < rk n m := by
  obtain ⟨i, j, rfl, h1, h2⟩ := h
  have e' : nxp2 n i j = some m := e
  unfold nxp2 at e'
  split at e'
  · cases e'
    exact ⟨⟨i, j + 1, rfl, by omega, by omega⟩, by show i * n + j < i * n + (j + 1); omega⟩
  · split at e'
    · cases e'
      refine ⟨⟨i + 1, i + 2, rfl, by omega, by omega⟩, ?_⟩
      show i * n + j < (i + 1) * n + (i + 2)
      rw [Nat.succ_mul]
      omega
    · cases e'
theorem nx3_inc {n : Nat} {l m : List Nat} (h : Inc3 n l) (e : nxL n l = some m) : Inc3 n m ∧ rk n l < rk n m := by
  obtain ⟨i, j, k, rfl, h1, h2, h3⟩ := h
  have e' : nxp3 n i j k = some m := e
  unfold nxp3 at e'
  split at e'
  · cases e'
    exact ⟨⟨i, j, k + 1, rfl, by omega, by omega, by omega⟩, by show (i * n + j) * n + k < (i * n + j) * n + (k + 1); omega⟩
  · split at e'
    · cases e'
      refine ⟨⟨i, j + 1, j + 2, rfl, by omega, by omega, by omega⟩, ?_⟩
      show (i * n + j) * n + k < (i * n + (j + 1)) * n + (j + 2)
      have z : i * n + (j + 1) = (i * n + j) + 1 := by omega
      rw [z, Nat.succ_mul]
      omega
    · split at e'
      · cases e'
        refine ⟨⟨i + 1, i + 2, i + 3, rfl, by omega, by omega, by omega⟩, ?_⟩
        show (i * n + j) * n + k < ((i + 1) * n + (i + 2)) * n + (i + 3)
        have a : (i * n + j) + 1 ≤ (i + 1) * n + (i + 2) := by rw [Nat.succ_mul]; omega
        have b := Nat.mul_le_mul_right n a
        rw [Nat.succ_mul] at b
        omega
      · cases e'
def IncR (n r : Nat) (l : List Nat) : Prop := (r = 2 ∧ Inc2 n l) ∨ (r = 3 ∧ Inc3 n l)
theorem nx_inc {n r : Nat} {l m : List Nat} (h : IncR n r l) (e : nxL n l = some m) : IncR n r m ∧ rk n l < rk n m := by
  rcases h with ⟨hr, h⟩ | ⟨hr, h⟩
  · exact ⟨.inl ⟨hr, (nx2_inc h e).1⟩, (nx2_inc h e).2⟩
  · exact ⟨.inr ⟨hr, (nx3_inc h e).1⟩, (nx3_inc h e).2⟩
theorem plc_inc {n r : Nat} (hr : r = 2 ∨ r = 3) : ∀ i l, plc n r i = some l → IncR n r l ∧ i ≤ rk n l
  | 0, l, e => by
    unfold plc at e
    split at e
    · cases e
      rcases hr with rfl | rfl
      · exact ⟨.inl ⟨rfl, 0, 1, rfl, by omega, by omega⟩, Nat.zero_le _⟩
      · exact ⟨.inr ⟨rfl, 0, 1, 2, rfl, by omega, by omega, by omega⟩, Nat.zero_le _⟩
    · cases e
  | i + 1, l, e => by
    unfold plc at e
    cases e0 : plc n r i with
    | none => rw [e0] at e; cases e
    | some m =>
      rw [e0] at e
      obtain ⟨h1, h2⟩ := plc_inc hr i m e0
      obtain ⟨h3, h4⟩ := nx_inc h1 e
      exact ⟨h3, by omega⟩
theorem rk_lt {n r : Nat} {l : List Nat} (h : IncR n r l) : rk n l < n * n * n + n * n + n := by
  have mul : ∀ {a b c : Nat}, a < b → c < b → a * b + c < b * b := fun {a b c} h1 h2 => by
    have := Nat.mul_le_mul_right b h1
    rw [Nat.succ_mul] at this
    omega
  rcases h with ⟨_, i, j, rfl, h1, h2⟩ | ⟨_, i, j, k, rfl, h1, h2, h3⟩
  · show i * n + j < _
    have := mul (b := n) (show i < n by omega) h2
    omega
  · show (i * n + j) * n + k < _
    have a := mul (b := n) (show i < n by omega) (show j < n by omega)
    have b := Nat.mul_le_mul_right n a
    rw [Nat.succ_mul] at b
    omega
/-- how many there are -/
theorem plc_end {n r : Nat} (hr : r = 2 ∨ r = 3) : ∃ m, plc n r m = none ∧ ∀ i, i < m → ∃ l, plc n r i = some l := by
  have ex : ∃ m, plc n r m = none := by
    refine ⟨n * n * n + n * n + n, ?_⟩
    cases e : plc n r (n * n * n + n * n + n) with
    | none => rfl
    | some l =>
      obtain ⟨h1, h2⟩ := plc_inc hr _ l e
      have := rk_lt h1
      omega
  have key : ∀ k m, k = m → plc n r m = none → ∃ m, plc n r m = none ∧ ∀ i, i < m → ∃ l, plc n r i = some l := by
    intro k
    induction k using Nat.strongRecOn with
    | _ k ih =>
      intro m e h
      by_cases c : ∀ i, i < m → ∃ l, plc n r i = some l
      · exact ⟨m, h, c⟩
      · obtain ⟨i, hi⟩ := Classical.not_forall.mp c
        obtain ⟨h1, h2⟩ := Classical.not_imp.mp hi
        have e2 : plc n r i = none := by
          cases q : plc n r i with
          | none => rfl
          | some l => exact absurd ⟨l, q⟩ h2
        exact ih i (by omega) i rfl e2
  obtain ⟨m, h⟩ := ex
  exact key m m rfl h
noncomputable def plcN (n r : Nat) : Nat := if h : r = 2 ∨ r = 3 then Classical.choose (plc_end (n := n) h) else 0
theorem plcN_none {n r : Nat} (h : r = 2 ∨ r = 3) : plc n r (plcN n r) = none := by
  unfold plcN
  rw [dif_pos h]
  exact (Classical.choose_spec (plc_end (n := n) h)).1
theorem plcN_some {n r : Nat} (h : r = 2 ∨ r = 3) {i : Nat} (hi : i < plcN n r) : ∃ l, plc n r i = some l := by
  unfold plcN at hi
  rw [dif_pos h] at hi
  exact (Classical.choose_spec (plc_end (n := n) h)).2 i hi
theorem plc_stop {n r : Nat} {i k : Nat} (h : plc n r i = none) : plc n r (i + k) = none := by
  induction k with
  | zero => exact h
  | succ k ih =>
    show (plc n r (i + k)).bind (nxL n) = none
    rw [ih]
    rfl
theorem plc_lt {n r : Nat} (h : r = 2 ∨ r = 3) {i : Nat} {l : List Nat} (e : plc n r i = some l) : i < plcN n r := by
  rcases Nat.lt_or_ge i (plcN n r) with q | q
  · exact q
  · obtain ⟨k, rfl⟩ := Nat.le.dest q
    rw [plc_stop (plcN_none h)] at e
    cases e
/-- each one comes -/
theorem plc_all2 {n : Nat} : ∀ k a b, k = a * n + b → a < b → b < n → ∃ i, plc n 2 i = some [a, b] := by
  intro k
  induction k using Nat.strongRecOn with
  | _ k ih =>
    intro a b e h1 h2
    by_cases c : a + 1 < b
    · obtain ⟨i, hi⟩ := ih (a * n + (b - 1)) (by omega) a (b - 1) rfl (by omega) (by omega)
      refine ⟨i + 1, ?_⟩
      show (plc n 2 i).bind (nxL n) = _
      rw [hi]
      show nxp2 n a (b - 1) = _
      unfold nxp2
      rw [if_pos (by omega), show b - 1 + 1 = b by omega]
    · have eb : b = a + 1 := by omega
      subst eb
      cases a with
      | zero =>
        refine ⟨0, ?_⟩
        unfold plc
        rw [if_pos (by omega)]
        rfl
      | succ a =>
        obtain ⟨i, hi⟩ := ih (a * n + (n - 1)) (by rw [e, Nat.succ_mul]; omega) a (n - 1) rfl (by omega) (by omega)
        refine ⟨i + 1, ?_⟩
        show (plc n 2 i).bind (nxL n) = _
        rw [hi]
        show nxp2 n a (n - 1) = _
        unfold nxp2
        rw [if_neg (by omega), if_pos (by omega)]
theorem plc_all3 {n : Nat} : ∀ k a b c, k = (a * n + b) * n + c → a < b → b < c → c < n → ∃ i, plc n 3 i = some [a, b, c] := by
  intro k
  induction k using Nat.strongRecOn with
  | _ k ih =>
    intro a b c e h1 h2 h3
    by_cases q : b + 1 < c
    · obtain ⟨i, hi⟩ := ih ((a * n + b) * n + (c - 1)) (by omega) a b (c - 1) rfl (by omega) (by omega) (by omega)
      refine ⟨i + 1, ?_⟩
      show (plc n 3 i).bind (nxL n) = _
      rw [hi]
      show nxp3 n a b (c - 1) = _
      unfold nxp3
      rw [if_pos (by omega), show c - 1 + 1 = c by omega]
    · have ec : c = b + 1 := by omega
      subst ec
      by_cases q2 : a + 1 < b
      · have lt : (a * n + (b - 1)) * n + (n - 1) < k := by
          have z : a * n + b = (a * n + (b - 1)) + 1 := by omega
          rw [e, z, Nat.succ_mul]
          omega
        obtain ⟨i, hi⟩ := ih _ lt a (b - 1) (n - 1) rfl (by omega) (by omega) (by omega)
        refine ⟨i + 1, ?_⟩
        show (plc n 3 i).bind (nxL n) = _
        rw [hi]
        show nxp3 n a (b - 1) (n - 1) = _
        unfold nxp3
        rw [if_neg (by omega), if_pos (by omega), show b - 1 + 1 = b by omega, show b - 1 + 2 = b + 1 by omega]
      · have eb : b = a + 1 := by omega
        subst eb
        cases a with
        | zero =>
          refine ⟨0, ?_⟩
          unfold plc
          rw [if_pos (by omega)]
          rfl
        | succ a =>
          have lt : (a * n + (n - 2)) * n + (n - 1) < k := by
            have z : (a * n + (n - 2)) + 1 ≤ (a + 1) * n + (a + 1 + 1) := by rw [Nat.succ_mul]; omega
            have y := Nat.mul_le_mul_right n z
            rw [Nat.succ_mul] at y
            omega
          obtain ⟨i, hi⟩ := ih _ lt a (n - 2) (n - 1) rfl (by omega) (by omega) (by omega)
          refine ⟨i + 1, ?_⟩
          show (plc n 3 i).bind (nxL n) = _
          rw [hi]
          show nxp3 n a (n - 2) (n - 1) = _
          unfold nxp3
          rw [if_neg (by omega), if_neg (by omega), if_pos (by omega)]
theorem plc_all {n r : Nat} {l : List Nat} (h : IncR n r l) : ∃ i, plc n r i = some l := by
  rcases h with ⟨rfl, i, j, rfl, h1, h2⟩ | ⟨rfl, i, j, k, rfl, h1, h2, h3⟩
  · exact plc_all2 _ i j rfl h1 h2
  · exact plc_all3 _ i j k rfl h1 h2 h3
/-- the list of all places -/
noncomputable def CL (n r : Nat) : List (List Nat) := (List.range (plcN n r)).map fun i => (plc n r i).getD []
theorem mem_CL {n r : Nat} (h : r = 2 ∨ r = 3) {l : List Nat} : l ∈ CL n r ↔ IncR n r l := by
  unfold CL
  rw [List.mem_map]
  constructor
  · rintro ⟨i, hi, rfl⟩
    obtain ⟨l, e⟩ := plcN_some h (List.mem_range.mp hi)
    rw [e]
    exact (plc_inc h i l e).1
  · intro hl
    obtain ⟨i, e⟩ := plc_all hl
    exact ⟨i, List.mem_range.mpr (plc_lt h e), by rw [e]; rfl⟩
end Mt
set_option linter.all false
set_option maxRecDepth 100000
/-! frames: opposite marks, spread, number -/
namespace Mt
def opp (n a b : Int) : Bool := decide (2 * (a - b) % n = 0)
noncomputable def hasOp (n : Int) (M : List Int) : Bool := (CL M.length 2).any fun ks => opp n (M.getD (ks.getD 0 0) 0) (M.getD (ks.getD 1 0) 0)
def gst (z g m : Int) : Int := ((Nat.gcd g.natAbs (m - z).natAbs : Nat) : Int)
def spr (n : Int) (M : List Int) : Int := M.foldl (gst (M.getD 0 0)) n
def oth (n : Int) (M : List Int) : List Int := M.filter fun m => !opp n m (M.getD 0 0)
noncomputable def numI (n : Int) (M : List Int) : Int := if hasOp n M = true then (if (oth n M).all (fun m => opp n m ((oth n M).getD 0 0)) = true then 2 else n / spr n M) else if M.length = 2 then 1 else n / spr n M
def letB (j m : Int) : Bool := decide ((j - 1) % m = 0) || decide ((j + 1) % m = 0)
def isLet (L : List Int) (j : Int) : Bool := L.all (letB j)
theorem gst_pos {z g m : Int} (h : 0 < g) : 0 < gst z g m ∧ gst z g m ≤ g := by
  unfold gst
  have a : 0 < g.natAbs := by omega
  have b := Nat.gcd_pos_of_pos_left (m - z).natAbs a
  have c := Nat.gcd_le_left (m - z).natAbs a
  omega
theorem gst_dvd {z g m : Int} : gst z g m ∣ g ∧ gst z g m ∣ (m - z) := by
  unfold gst
  exact ⟨Int.ofNat_dvd_left.mpr (Nat.gcd_dvd_left _ _), Int.ofNat_dvd_left.mpr (Nat.gcd_dvd_right _ _)⟩
theorem fold_pos {z : Int} : ∀ (l : List Int) (g : Int), 0 < g → 0 < l.foldl (gst z) g ∧ l.foldl (gst z) g ≤ g
  | [], g, h => ⟨h, Int.le_refl _⟩
  | m :: l, g, h => by
    have a := gst_pos (z := z) (m := m) h
    have b := fold_pos (z := z) l _ a.1
    exact ⟨b.1, Int.le_trans b.2 a.2⟩
theorem fold_dvd {z : Int} : ∀ (l : List Int) (g : Int), l.foldl (gst z) g ∣ g ∧ ∀ m ∈ l, l.foldl (gst z) g ∣ (m - z)
  | [], g => ⟨Int.dvd_refl _, fun m h => nomatch h⟩
  | m :: l, g => by
    have a := gst_dvd (z := z) (g := g) (m := m)
    have b := fold_dvd (z := z) l (gst z g m)
    refine ⟨Int.dvd_trans b.1 a.1, fun m' h => ?_⟩
    rcases List.mem_cons.mp h with rfl | h
    · exact Int.dvd_trans b.1 a.2
    · exact b.2 m' h
theorem spr_pos {n : Int} {M : List Int} (h : 0 < n) : 0 < spr n M ∧ spr n M ≤ n := fold_pos M n h
/-! knots -/
def inC (n : Int) (M : List Int) (b : Nat) : List Int := (M.drop (b + 1)).filter fun m => !opp n m (M.getD b 0)
def knC (n : Int) (M : List Int) (a b : Nat) (c : Int) : List (List Int) := if opp n c (M.getD a 0) = true then [] else [[M.getD a 0, M.getD b 0, c]]
def knB (n : Int) (M : List Int) (a b : Nat) : List (List Int) := if opp n (M.getD a 0) (M.getD b 0) = true then [[M.getD a 0, M.getD b 0]] else (inC n M b).flatMap (knC n M a b)
def knA (n : Int) (M : List Int) (a : Nat) : List (List Int) := (List.range (M.length - (a + 1))).flatMap fun i => knB n M a (a + 1 + i)
def kn (n : Int) (M : List Int) : List (List Int) := (List.range M.length).flatMap (knA n M)
theorem mem_knC {n : Int} {M : List Int} {a b : Nat} {c : Int} {k : List Int} : k ∈ knC n M a b c ↔ opp n c (M.getD a 0) = false ∧ k = [M.getD a 0, M.getD b 0, c] := by
  unfold knC
  cases opp n c (M.getD a 0) <;> simp
theorem mem_knB {n : Int} {M : List Int} {a b : Nat} {k : List Int} : k ∈ knB n M a b ↔ (opp n (M.getD a 0) (M.getD b 0) = true ∧ k = [M.getD a 0, M.getD b 0]) ∨
    (opp n (M.getD a 0) (M.getD b 0) = false ∧ ∃ c ∈ M.drop (b + 1), opp n c (M.getD b 0) = false ∧ opp n c (M.getD a 0) = false ∧ k = [M.getD a 0, M.getD b 0, c]) := by
  unfold knB
  cases h : opp n (M.getD a 0) (M.getD b 0) with
  | true => simp
  | false =>
    simp only [Bool.false_eq_true, if_false, List.mem_flatMap, mem_knC]
    unfold inC
    simp only [List.mem_filter, Bool.not_eq_true', false_and, false_or, true_and]
    constructor
    · rintro ⟨c, ⟨h1, h2⟩, h3, h4⟩
      exact ⟨c, h1, h2, h3, h4⟩
    · rintro ⟨c, h1, h2, h3, h4⟩
      exact ⟨c, ⟨h1, h2⟩, h3, h4⟩
theorem mem_kn {n : Int} {M : List Int} {k : List Int} : k ∈ kn n M ↔ ∃ a b, a < b ∧ b < M.length ∧ k ∈ knB n M a b := by
  unfold kn knA
  simp only [List.mem_flatMap, List.mem_range]
  constructor
  · rintro ⟨a, ha, i, hi, h⟩
    exact ⟨a, a + 1 + i, by omega, by omega, h⟩
  · rintro ⟨a, b, h1, h2, h⟩
    exact ⟨a, by omega, b - (a + 1), by omega, by rw [show a + 1 + (b - (a + 1)) = b by omega]; exact h⟩
theorem sorted_at {M : List Int} (hs : M.Pairwise (· < ·)) {a b : Nat} (h : a < b) (hb : b < M.length) : M.getD a 0 < M.getD b 0 := by
  have ha : a < M.length := by omega
  rw [List.getD_eq_getElem?_getD, List.getD_eq_getElem?_getD, List.getElem?_eq_getElem ha, List.getElem?_eq_getElem hb]
  exact List.pairwise_iff_getElem.mp hs a b ha hb h
theorem drop_at {M : List Int} {b : Nat} {c : Int} (h : c ∈ M.drop b) : ∃ j, b ≤ j ∧ j < M.length ∧ c = M.getD j 0 := by
  obtain ⟨i, hi, e⟩ := List.mem_iff_getElem.mp h
  rw [List.getElem_drop] at e
  rw [List.length_drop] at hi
  refine ⟨b + i, by omega, by omega, ?_⟩
  rw [List.getD_eq_getElem?_getD, List.getElem?_eq_getElem (by omega), ← e]
  rfl
theorem kn_low {n : Int} {M : List Int} (hs : M.Pairwise (· < ·)) {k : List Int} (hk : k ∈ kn n M) : 0 < k.length ∧ ∀ m ∈ k, k.getD 0 0 ≤ m := by
  obtain ⟨a, b, h1, h2, h⟩ := mem_kn.mp hk
  have ab := sorted_at hs h1 h2
  rcases mem_knB.mp h with ⟨_, rfl⟩ | ⟨_, c, hc, _, _, rfl⟩
  · refine ⟨by show 0 < 2; omega, fun m hm => ?_⟩
    show M.getD a 0 ≤ m
    simp only [List.mem_cons, List.not_mem_nil, or_false] at hm
    omega
  · obtain ⟨j, j1, j2, ec⟩ := drop_at hc
    have ac := sorted_at hs (show a < j by omega) j2
    refine ⟨by show 0 < 3; omega, fun m hm => ?_⟩
    show M.getD a 0 ≤ m
    simp only [List.mem_cons, List.not_mem_nil, or_false] at hm
    omega
theorem nodup_lt : ∀ (B : Nat) (m : List Int), m.Nodup → (∀ k ∈ m, 0 ≤ k ∧ k < B) → m.length ≤ B
  | 0, [], _, _ => Nat.le_refl _
  | 0, x :: m, _, h => by have := h x List.mem_cons_self; omega
  | B + 1, m, hn, h => by
    have z := nodup_lt B (m.erase (B : Int)) (hn.erase _) fun k hk => by
      have q := hn.mem_erase_iff.mp hk
      have r := h k q.2
      have q1 := q.1
      omega
    by_cases c : (B : Int) ∈ m
    · rw [List.length_erase_of_mem c] at z
      omega
    · rw [List.erase_of_not_mem c] at z
      omega
theorem ks_bound {n : Int} {k : List Int} (h : 0 < n ∧ n ≤ 60) : 0 < n / spr n k ∧ n / spr n k ≤ 60 := by
  have s := spr_pos (n := n) (M := k) h.1
  have d : spr n k ∣ n := (fold_dvd k n).1
  have e := Int.ediv_mul_cancel d
  have p : 0 < n / spr n k := by
    rcases Int.lt_or_le 0 (n / spr n k) with z | z
    · exact z
    · have y : n / spr n k * spr n k ≤ 0 := Int.mul_nonpos_of_nonpos_of_nonneg z (by omega)
      omega
  refine ⟨p, ?_⟩
  have y : n / spr n k * 1 ≤ n / spr n k * spr n k := Int.mul_le_mul_of_nonneg_left (by omega) (by omega)
  omega
end Mt
set_option linter.all false
set_option maxRecDepth 100000
/-! what the knots of a frame let: its number -/
namespace Mt
theorem opp_iff {n a b : Int} : opp n a b = true ↔ n ∣ 2 * (a - b) := by
  unfold opp
  rw [decide_eq_true_iff, Int.dvd_iff_emod_eq_zero]
theorem hasOp_iff {n : Int} {M : List Int} : hasOp n M = true ↔ ∃ a b, a < b ∧ b < M.length ∧ opp n (M.getD a 0) (M.getD b 0) = true := by
  unfold hasOp
  rw [List.any_eq_true]
  constructor
  · rintro ⟨ks, hk, h⟩
    rcases (mem_CL (.inl rfl)).mp hk with ⟨_, i, j, rfl, h1, h2⟩ | ⟨h, _⟩
    · exact ⟨i, j, h1, h2, h⟩
    · exact absurd h (by decide)
  · rintro ⟨a, b, h1, h2, h⟩
    exact ⟨[a, b], (mem_CL (.inl rfl)).mpr (.inl ⟨rfl, a, b, rfl, h1, h2⟩), h⟩
theorem opp_refl {n a : Int} : opp n a a = true := opp_iff.mpr (by rw [Int.sub_self, Int.mul_zero]; exact Int.dvd_zero n)
theorem opp_symm {n a b : Int} (h : opp n a b = true) : opp n b a = true := by
  rw [opp_iff] at h ⊢
  obtain ⟨q, e⟩ := h
  exact ⟨-q, by rw [Int.mul_neg, ← e]; omega⟩
theorem opp_comm {n a b : Int} : opp n a b = opp n b a := by
  cases h : opp n a b with
  | true => exact (opp_symm h).symm
  | false =>
    cases k : opp n b a with
    | false => rfl
    | true => rw [opp_symm k] at h; cases h
theorem opp_trans {n a b c : Int} (h : opp n a b = true) (k : opp n b c = true) : opp n a c = true := by
  rw [opp_iff] at h k ⊢
  have z := Int.dvd_add h k
  rwa [show 2 * (a - b) + 2 * (b - c) = 2 * (a - c) by omega] at z
theorem dvd_cg {n c g z m : Int} (h1 : n ∣ c * g) (h2 : n ∣ c * (m - z)) : n ∣ c * gst z g m := by
  unfold gst
  rw [← Int.natAbs_dvd_natAbs] at h1 h2 ⊢
  rw [Int.natAbs_mul] at h1 h2 ⊢
  rw [Int.natAbs_natCast, ← Nat.gcd_mul_left]
  exact Nat.dvd_gcd h1 h2
theorem dvd_cfold {n c z : Int} : ∀ (l : List Int) (g : Int), n ∣ c * g → (∀ m ∈ l, n ∣ c * (m - z)) → n ∣ c * l.foldl (gst z) g
  | [], g, h, _ => h
  | m :: l, g, h, k => dvd_cfold l _ (dvd_cg h (k m List.mem_cons_self)) fun m' h' => k m' (List.mem_cons_of_mem _ h')
theorem dvd_spr {n c : Int} {k : List Int} (h : 0 < n) : (n / spr n k) ∣ c ↔ ∀ m ∈ k, n ∣ c * (m - k.getD 0 0) := by
  have s := spr_pos (n := n) (M := k) h
  have d := fold_dvd (z := k.getD 0 0) k n
  have e : n / spr n k * spr n k = n := Int.ediv_mul_cancel d.1
  constructor
  · rintro ⟨q, rfl⟩ m hm
    obtain ⟨r, er⟩ := d.2 m hm
    have er' : m - k.getD 0 0 = spr n k * r := er
    refine ⟨q * r, ?_⟩
    rw [er', show n / spr n k * q * (spr n k * r) = (n / spr n k * spr n k) * (q * r) by grind, e]
  · intro hm
    have z : n ∣ c * spr n k := dvd_cfold k n ⟨c, Int.mul_comm _ _⟩ hm
    obtain ⟨q, eq⟩ := z
    refine ⟨q, ?_⟩
    have y : (c - n / spr n k * q) * spr n k = 0 := by
      rw [Int.sub_mul, eq, show n / spr n k * q * spr n k = (n / spr n k * spr n k) * q by grind, e]
      omega
    rcases Int.mul_eq_zero.mp y with w | w
    · omega
    · omega
theorem letB_iff {j m : Int} : letB j m = true ↔ m ∣ (j - 1) ∨ m ∣ (j + 1) := by
  unfold letB
  rw [Bool.or_eq_true, decide_eq_true_iff, decide_eq_true_iff, Int.dvd_iff_emod_eq_zero, Int.dvd_iff_emod_eq_zero]
/-- c times all differences is 0 mod n -/
def Al (n c : Int) (k : List Int) : Prop := ∀ x ∈ k, ∀ y ∈ k, n ∣ c * (x - y)
theorem dvd_al {n c : Int} {k : List Int} (h : 0 < n) (h0 : 0 < k.length) : (n / spr n k) ∣ c ↔ Al n c k := by
  rw [dvd_spr h]
  have hm : k.getD 0 0 ∈ k := by
    cases k with
    | nil => cases h0
    | cons x k => exact List.mem_cons_self
  constructor
  · intro a x hx y hy
    have z := Int.dvd_sub (a x hx) (a y hy)
    rwa [show c * (x - k.getD 0 0) - c * (y - k.getD 0 0) = c * (x - y) by grind] at z
  · intro a m hx
    exact a m hx _ hm
theorem let_iff {n j : Int} {k : List Int} (h : 0 < n) (h0 : 0 < k.length) : letB j (n / spr n k) = true ↔ Al n (j - 1) k ∨ Al n (j + 1) k := by
  rw [letB_iff, dvd_al h h0, dvd_al h h0]
end Mt
set_option linter.all false
set_option maxRecDepth 100000
namespace Mt
variable {n : Int} {M : List Int}
theorem at_mem {i : Nat} (h : i < M.length) : M.getD i 0 ∈ M := by
  rw [List.getD_eq_getElem?_getD, List.getElem?_eq_getElem h]
  exact List.getElem_mem h
theorem mem_at {x : Int} (h : x ∈ M) : ∃ i, i < M.length ∧ x = M.getD i 0 := by
  obtain ⟨i, hi, e⟩ := List.mem_iff_getElem.mp h
  exact ⟨i, hi, by rw [List.getD_eq_getElem?_getD, List.getElem?_eq_getElem hi, ← e]; rfl⟩
theorem kn_sub {k : List Int} (hk : k ∈ kn n M) : ∀ x ∈ k, x ∈ M := by
  obtain ⟨a, b, h1, h2, h⟩ := mem_kn.mp hk
  rcases mem_knB.mp h with ⟨_, rfl⟩ | ⟨_, c, hc, _, _, rfl⟩
  · intro x hx
    simp only [List.mem_cons, List.not_mem_nil, or_false] at hx
    rcases hx with rfl | rfl
    · exact at_mem (by omega)
    · exact at_mem h2
  · intro x hx
    simp only [List.mem_cons, List.not_mem_nil, or_false] at hx
    rcases hx with rfl | rfl | rfl
    · exact at_mem (by omega)
    · exact at_mem h2
    · exact List.mem_of_mem_drop hc
theorem tri_in {a b c : Nat} (h1 : a < b) (h2 : b < c) (h3 : c < M.length) (x : opp n (M.getD a 0) (M.getD b 0) = false) (y : opp n (M.getD c 0) (M.getD b 0) = false) (z : opp n (M.getD c 0) (M.getD a 0) = false) : [M.getD a 0, M.getD b 0, M.getD c 0] ∈ kn n M := by
  refine mem_kn.mpr ⟨a, b, h1, by omega, mem_knB.mpr (.inr ⟨x, M.getD c 0, ?_, y, z, rfl⟩)⟩
  have e : M.getD c 0 = (M.drop (b + 1)).getD (c - (b + 1)) 0 := by
    rw [List.getD_eq_getElem?_getD, List.getD_eq_getElem?_getD, List.getElem?_drop, show b + 1 + (c - (b + 1)) = c by omega]
  rw [e]
  exact at_mem (by rw [List.length_drop]; omega)
theorem tri {x y z : Int} (hx : x ∈ M) (hy : y ∈ M) (hz : z ∈ M) (xy : opp n x y = false) (xz : opp n x z = false) (yz : opp n y z = false) : ∃ k ∈ kn n M, x ∈ k ∧ y ∈ k ∧ z ∈ k := by
  obtain ⟨i, hi, rfl⟩ := mem_at hx
  obtain ⟨j, hj, rfl⟩ := mem_at hy
  obtain ⟨l, hl, rfl⟩ := mem_at hz
  have yx := opp_comm.trans xy
  have zx := opp_comm.trans xz
  have zy := opp_comm.trans yz
  have nij : i ≠ j := fun e => by rw [e, opp_refl] at xy; cases xy
  have nil : i ≠ l := fun e => by rw [e, opp_refl] at xz; cases xz
  have njl : j ≠ l := fun e => by rw [e, opp_refl] at yz; cases yz
  rcases Nat.lt_or_ge i j with a | a
  · rcases Nat.lt_or_ge j l with b | b
    · exact ⟨_, tri_in a b hl xy zy zx, by simp, by simp, by simp⟩
    · rcases Nat.lt_or_ge i l with c | c
      · exact ⟨_, tri_in c (show l < j by omega) hj xz yz yx, by simp, by simp, by simp⟩
      · exact ⟨_, tri_in (show l < i by omega) a hj zx yx yz, by simp, by simp, by simp⟩
  · rcases Nat.lt_or_ge i l with b | b
    · exact ⟨_, tri_in (show j < i by omega) b hl yx zx zy, by simp, by simp, by simp⟩
    · rcases Nat.lt_or_ge j l with c | c
      · exact ⟨_, tri_in c (show l < i by omega) hi yz xz xy, by simp, by simp, by simp⟩
      · exact ⟨_, tri_in (show l < j by omega) (show j < i by omega) hi zy xy xz, by simp, by simp, by simp⟩
theorem excl {c c' x y : Int} (hc : c' - c = 2 ∨ c' - c = -2) (h1 : n ∣ c * (x - y)) (h2 : n ∣ c' * (x - y)) : opp n x y = true := by
  rw [opp_iff]
  rcases hc with h | h
  · have z := Int.dvd_sub h2 h1
    rwa [← Int.sub_mul, h] at z
  · have z := Int.dvd_sub h1 h2
    rwa [← Int.sub_mul, show c - c' = 2 by omega] at z
theorem wsym {c x y : Int} (h : n ∣ c * (x - y)) : n ∣ c * (y - x) := by
  have z := (Int.dvd_neg (a := n)).mpr h
  rwa [show -(c * (x - y)) = c * (y - x) by grind] at z
theorem wtrans {c x y z : Int} (h : n ∣ c * (x - y)) (k : n ∣ c * (y - z)) : n ∣ c * (x - z) := by
  have w := Int.dvd_add h k
  rwa [show c * (x - y) + c * (y - z) = c * (x - z) by grind] at w
/-- three marks, no two opposite -/
structure Tri (n : Int) (M : List Int) (P u v : Int) : Prop where
  hP : P ∈ M
  hu : u ∈ M
  hv : v ∈ M
  pu : opp n P u = false
  pv : opp n P v = false
  uv : opp n u v = false
theorem spreadA {c c' P u v : Int} (hc : c' - c = 2 ∨ c' - c = -2) (T : Tri n M P u v) (H : ∀ k ∈ kn n M, Al n c k ∨ Al n c' k) (a1 : n ∣ c * (P - u)) (a2 : n ∣ c * (P - v)) (a3 : n ∣ c * (u - v)) : Al n c M := by
  have st : ∀ {x y m : Int}, x ∈ M → y ∈ M → m ∈ M → opp n x y = false → opp n m x = false → opp n m y = false → n ∣ c * (x - y) → n ∣ c * (m - x) := by
    intro x y m hx hy hm xy mx my w
    obtain ⟨k, hk, i1, i2, i3⟩ := tri hm hx hy mx my xy
    rcases H k hk with h | h
    · exact h m i1 x i2
    · have z := excl hc w (h x i2 y i3)
      rw [z] at xy; cases xy
  have main : ∀ m ∈ M, n ∣ c * (m - P) := by
    intro m hm
    cases mP : opp n m P with
    | true =>
      have mu : opp n m u = false := by
        cases h : opp n m u with
        | false => rfl
        | true => have z := opp_trans (opp_symm mP) h; rw [T.pu] at z; cases z
      have mv : opp n m v = false := by
        cases h : opp n m v with
        | false => rfl
        | true => have z := opp_trans (opp_symm mP) h; rw [T.pv] at z; cases z
      exact wtrans (st T.hu T.hv hm T.uv mu mv a3) (wsym a1)
    | false =>
      cases mu : opp n m u with
      | false => exact st T.hP T.hu hm T.pu mP mu a1
      | true =>
        have mv : opp n m v = false := by
          cases h : opp n m v with
          | false => rfl
          | true => have z := opp_trans (opp_symm mu) h; rw [T.uv] at z; cases z
        exact st T.hP T.hv hm T.pv mP mv a2
  intro x hx y hy
  exact wtrans (main x hx) (wsym (main y hy))
theorem let3 {j P u v : Int} (n0 : 0 < n) (hs : M.Pairwise (· < ·)) (T : Tri n M P u v) : (∀ k ∈ kn n M, letB j (n / spr n k) = true) ↔ letB j (n / spr n M) = true := by
  have l0 : 0 < M.length := List.length_pos_of_mem T.hP
  rw [let_iff n0 l0]
  constructor
  · intro H
    have H' : ∀ k ∈ kn n M, Al n (j - 1) k ∨ Al n (j + 1) k := fun k hk => (let_iff n0 (kn_low hs hk).1).mp (H k hk)
    obtain ⟨k, hk, i1, i2, i3⟩ := tri T.hP T.hu T.hv T.pu T.pv T.uv
    rcases H' k hk with h | h
    · exact .inl (spreadA (c' := j + 1) (.inl (by omega)) T H' (h _ i1 _ i2) (h _ i1 _ i3) (h _ i2 _ i3))
    · exact .inr (spreadA (c' := j - 1) (.inr (by omega)) T (fun k hk => (H' k hk).symm) (h _ i1 _ i2) (h _ i1 _ i3) (h _ i2 _ i3))
  · intro H k hk
    refine (let_iff n0 (kn_low hs hk).1).mpr ?_
    rcases H with h | h
    · exact .inl fun x hx y hy => h x (kn_sub hk x hx) y (kn_sub hk y hy)
    · exact .inr fun x hx y hy => h x (kn_sub hk x hx) y (kn_sub hk y hy)
theorem not4 {P u v : Int} (n0 : 0 < n) (T : Tri n M P u v) : n / spr n M ≠ 4 := by
  intro e4
  have d := fold_dvd (z := M.getD 0 0) M n
  have e : n / spr n M * spr n M = n := Int.ediv_mul_cancel d.1
  rw [e4] at e
  obtain ⟨p, ep⟩ := d.2 P T.hP
  obtain ⟨q, eq⟩ := d.2 u T.hu
  obtain ⟨r, er⟩ := d.2 v T.hv
  have ev : ∀ {x y a b : Int}, x - M.getD 0 0 = spr n M * a → y - M.getD 0 0 = spr n M * b → opp n x y = false → (a - b) % 2 = 1 := by
    intro x y a b hx hy h
    rcases Int.emod_two_eq (a - b) with z | z
    · exfalso
      have w : opp n x y = true := by
        rw [opp_iff]
        obtain ⟨t, et⟩ : (2 : Int) ∣ a - b := Int.dvd_iff_emod_eq_zero.mpr z
        refine ⟨t, ?_⟩
        rw [← e, show x - y = spr n M * (a - b) by grind, et]
        grind
      rw [w] at h; cases h
    · exact z
  have z1 := ev ep eq T.pu
  have z2 := ev ep er T.pv
  have z3 := ev eq er T.uv
  omega
end Mt
set_option linter.all false
set_option maxRecDepth 100000
namespace Mt
variable {n : Int} {M : List Int}
theorem two_cls {α : Type} {o p : α} {r : α → α → Prop} (rs : ∀ {a b}, r a b → r b a) (rt : ∀ {a b c}, r a b → r b c → r a c) {x y z : α} (hx : r x o ∨ r x p) (hy : r y o ∨ r y p) (hz : r z o ∨ r z p) : r x y ∨ r x z ∨ r y z := by
  rcases hx with hx | hx
  · rcases hy with hy | hy
    · exact .inl (rt hx (rs hy))
    · rcases hz with hz | hz
      · exact .inr (.inl (rt hx (rs hz)))
      · exact .inr (.inr (rt hy (rs hz)))
  · rcases hy with hy | hy
    · rcases hz with hz | hz
      · exact .inr (.inr (rt hy (rs hz)))
      · exact .inr (.inl (rt hx (rs hz)))
    · exact .inl (rt hx (rs hy))
theorem Tri.no {P u v : Int} (T : Tri n M P u v) (h : opp n P u = true ∨ opp n P v = true ∨ opp n u v = true) : False := by
  rcases h with h | h | h
  · rw [T.pu] at h; cases h
  · rw [T.pv] at h; cases h
  · rw [T.uv] at h; cases h
theorem numI_tri {P u v : Int} (T : Tri n M P u v) : numI n M = n / spr n M := by
  unfold numI
  cases ho : hasOp n M with
  | false =>
    rw [if_neg (by decide)]
    by_cases l2 : M.length = 2
    · exfalso
      obtain ⟨x, y, e⟩ : ∃ x y, M = [x, y] := by
        match M, l2 with
        | [x, y], _ => exact ⟨x, y, rfl⟩
      have m : ∀ {z : Int}, z ∈ M → opp n z x = true ∨ opp n z y = true := by
        intro z hz
        rw [e] at hz
        simp only [List.mem_cons, List.not_mem_nil, or_false] at hz
        rcases hz with rfl | rfl
        · exact .inl opp_refl
        · exact .inr opp_refl
      exact T.no (two_cls (r := fun a b => opp n a b = true) opp_symm opp_trans (m T.hP) (m T.hu) (m T.hv))
    · rw [if_neg l2]
  | true =>
    rw [if_pos rfl]
    split
    · exfalso
      rename_i ha
      have m : ∀ {z : Int}, z ∈ M → opp n z (M.getD 0 0) = true ∨ opp n z ((oth n M).getD 0 0) = true := by
        intro z hz
        cases h : opp n z (M.getD 0 0) with
        | true => exact .inl rfl
        | false => exact .inr (List.all_eq_true.mp ha z (List.mem_filter.mpr ⟨hz, by rw [h]; rfl⟩))
      exact T.no (two_cls (r := fun a b => opp n a b = true) opp_symm opp_trans (m T.hP) (m T.hu) (m T.hv))
    · rfl
theorem pair_half {x y : Int} (h : x < y) (h0 : 0 ≤ x) (h1 : y ≤ n - 1) (o : opp n x y = true) : n = 2 * (y - x) := by
  obtain ⟨q, e⟩ := opp_iff.mp (opp_symm o)
  have n0 : 0 < n := by omega
  rcases Int.lt_trichotomy q 1 with c | c | c
  · have z : n * q ≤ 0 := Int.mul_nonpos_of_nonneg_of_nonpos (by omega) (by omega)
    omega
  · subst c
    omega
  · have z : n * 2 ≤ n * q := Int.mul_le_mul_of_nonneg_left (by omega) (by omega)
    omega
theorem pair_let {x y j : Int} (h : x < y) (e : n = 2 * (y - x)) : letB j (n / spr n [x, y]) = letB j 2 := by
  have n0 : 0 < n := by omega
  have key : ∀ c, Al n c [x, y] ↔ (2 : Int) ∣ c := by
    intro c
    constructor
    · intro a
      obtain ⟨q, eq⟩ := a y (by simp) x (by simp)
      refine ⟨q, ?_⟩
      have z : (c - 2 * q) * (y - x) = 0 := by rw [Int.sub_mul, eq, e]; grind
      rcases Int.mul_eq_zero.mp z with w | w <;> omega
    · rintro ⟨q, rfl⟩ a ha b hb
      have r : 2 * q * (y - x) = n * q := by rw [e]; grind
      simp only [List.mem_cons, List.not_mem_nil, or_false] at ha hb
      rcases ha with rfl | rfl <;> rcases hb with rfl | rfl
      · exact ⟨0, by simp⟩
      · exact ⟨-q, by grind⟩
      · exact ⟨q, by grind⟩
      · exact ⟨0, by simp⟩
  rw [Bool.eq_iff_iff, let_iff n0 (by show 0 < 2; omega), letB_iff, key, key]
theorem numI_spec (hn : 2 ≤ n ∧ n ≤ 60) (hm : 2 ≤ M.length ∧ M.length ≤ 8) (hb : ∀ m ∈ M, 0 ≤ m ∧ m ≤ n - 1) (hs : M.Pairwise (· < ·)) : 1 ≤ numI n M ∧ numI n M ≠ 4 ∧ numI n M ∣ n ∧ numI n M ≤ 60 ∧ ∀ j, (∀ k ∈ kn n M, letB j (n / spr n k) = true) ↔ letB j (numI n M) = true := by
  have n0 : 0 < n := by omega
  by_cases ex : ∃ P u v, Tri n M P u v
  · obtain ⟨P, u, v, T⟩ := ex
    rw [numI_tri T]
    have s := ks_bound (k := M) ⟨n0, hn.2⟩
    refine ⟨s.1, not4 n0 T, ⟨spr n M, (Int.ediv_mul_cancel (fold_dvd M n).1).symm⟩, s.2, fun j => let3 n0 hs T⟩
  · have two : ∀ k ∈ kn n M, ∃ a b, a < b ∧ b < M.length ∧ opp n (M.getD a 0) (M.getD b 0) = true ∧ k = [M.getD a 0, M.getD b 0] := by
      intro k hk
      obtain ⟨a, b, h1, h2, h⟩ := mem_kn.mp hk
      rcases mem_knB.mp h with ⟨o, e⟩ | ⟨o, c, hc, x, y, e⟩
      · exact ⟨a, b, h1, h2, o, e⟩
      · exact absurd ⟨M.getD a 0, M.getD b 0, c, ⟨at_mem (by omega), at_mem h2, List.mem_of_mem_drop hc, o, opp_comm.trans y, opp_comm.trans x⟩⟩ ex
    cases ho : hasOp n M with
    | false =>
      have no : ∀ a b, a < b → b < M.length → opp n (M.getD a 0) (M.getD b 0) = false := by
        intro a b h1 h2
        cases h : opp n (M.getD a 0) (M.getD b 0) with
        | false => rfl
        | true => rw [hasOp_iff.mpr ⟨a, b, h1, h2, h⟩] at ho; cases ho
      have l2 : M.length = 2 := by
        rcases Nat.lt_or_ge 2 M.length with h | h
        · exact absurd ⟨M.getD 0 0, M.getD 1 0, M.getD 2 0, ⟨at_mem (by omega), at_mem (by omega), at_mem h, no 0 1 (by omega) (by omega), no 0 2 (by omega) h, no 1 2 (by omega) h⟩⟩ ex
        · omega
      have e : numI n M = 1 := by unfold numI; rw [ho, if_neg (by decide), if_pos l2]
      rw [e]
      refine ⟨by omega, by omega, ⟨n, by omega⟩, by omega, fun j => ⟨fun _ => letB_iff.mpr (.inl ⟨j - 1, by omega⟩), fun _ k hk => ?_⟩⟩
      obtain ⟨a, b, h1, h2, o, _⟩ := two k hk
      rw [no a b h1 h2] at o
      cases o
    | true =>
      obtain ⟨a, b, h1, h2, o⟩ := hasOp_iff.mp ho
      have ha : (oth n M).all (fun m => opp n m ((oth n M).getD 0 0)) = true := by
        refine List.all_eq_true.mpr fun m hm => ?_
        cases h : opp n m ((oth n M).getD 0 0) with
        | true => rfl
        | false =>
          exfalso
          have h0 : (oth n M).getD 0 0 ∈ oth n M := at_mem (List.length_pos_of_mem hm)
          have a1 := List.mem_filter.mp hm
          have a2 := List.mem_filter.mp h0
          exact ex ⟨M.getD 0 0, (oth n M).getD 0 0, m, ⟨at_mem (by omega), a2.1, a1.1, opp_comm.trans (by simpa using a2.2), opp_comm.trans (by simpa using a1.2), opp_comm.trans h⟩⟩
      have e : numI n M = 2 := by unfold numI; rw [ho, if_pos rfl, if_pos ha]
      rw [e]
      have pl : ∀ a b, a < b → b < M.length → opp n (M.getD a 0) (M.getD b 0) = true → n = 2 * (M.getD b 0 - M.getD a 0) := fun a b h1 h2 o => pair_half (sorted_at hs h1 h2) (hb _ (at_mem (by omega))).1 (hb _ (at_mem h2)).2 o
      refine ⟨by omega, by omega, ⟨_, pl a b h1 h2 o⟩, by omega, fun j => ⟨fun H => ?_, fun H k hk => ?_⟩⟩
      · rw [← pair_let (sorted_at hs h1 h2) (pl a b h1 h2 o)]
        exact H _ (mem_kn.mpr ⟨a, b, h1, h2, mem_knB.mpr (.inl ⟨o, rfl⟩)⟩)
      · obtain ⟨a', b', h1', h2', o', rfl⟩ := two k hk
        rw [pair_let (sorted_at hs h1' h2') (pl a' b' h1' h2' o')]
        exact H
end Mt
set_option Elab.async false
set_option linter.all false
/-! the least harmonic that one of two numbers lets -/
namespace Mt
def fst (p : Nat → Bool) : Nat → Option Nat
  | 0 => none
  | n + 1 => match fst p n with
    | some i => some i
    | none => if p n then some n else none
theorem fst_none {p : Nat → Bool} : ∀ n, fst p n = none ↔ ∀ k < n, p k = false
  | 0 => ⟨fun _ k h => absurd h (by omega), fun _ => rfl⟩
  | n + 1 => by
    have z := fst_none (p := p) n
    unfold fst
    constructor
    · intro h k hk
      cases e : fst p n with
      | some i => rw [e] at h; cases h
      | none =>
        rw [e] at h
        by_cases c : k < n
        · exact z.mp e k c
        · have : k = n := by omega
          subst this
          cases q : p k with
          | false => rfl
          | true => rw [q] at h; cases h
    · intro h
      rw [z.mpr fun k hk => h k (by omega), h n (by omega)]
      rfl
def dif (t u : Int) (i : Nat) : Bool := letB (1 + (i : Int)) t != letB (1 + (i : Int)) u
def prt (t u : Int) : Option Nat := fst (dif t u) 60
theorem prt_same (t : Int) : prt t t = none := (fst_none 60).mpr fun k _ => by
  unfold dif
  cases letB (1 + (k : Int)) t <;> rfl
def wit (t u : Nat) : Nat := if min t u = 1 then (if max t u = 3 then 2 else 1) else if min t u = 2 then (if max t u = 3 then 1 else 2) else min t u - 2
theorem wit_fin : ∀ t u : Fin 61, 1 ≤ t.val → 1 ≤ u.val → t.val ≠ 4 → u.val ≠ 4 → t.val ≠ u.val → dif (t.val : Int) (u.val : Int) (wit t.val u.val) = true := by decide +kernel
theorem wit_lt {t u : Nat} (h : 1 ≤ t ∧ t ≤ 60) (k : 1 ≤ u ∧ u ≤ 60) : wit t u < 60 ∧ (wit t u ≤ 2 ∨ wit t u + 2 ≤ t ∧ wit t u + 2 ≤ u) := by
  unfold wit
  split
  · split <;> omega
  · split
    · split <;> omega
    · omega
theorem dif_small {t u : Int} (h : 1 ≤ t ∧ t ≤ 60 ∧ t ≠ 4) (k : 1 ≤ u ∧ u ≤ 60 ∧ u ≠ 4) (ne : t ≠ u) : ∃ i, i < 60 ∧ dif t u i = true ∧ (i ≤ 2 ∨ (i : Int) + 2 ≤ t ∧ (i : Int) + 2 ≤ u) := by
  have z := wit_fin ⟨t.toNat, by omega⟩ ⟨u.toNat, by omega⟩ (by show 1 ≤ t.toNat; omega) (by show 1 ≤ u.toNat; omega) (by show t.toNat ≠ 4; omega) (by show u.toNat ≠ 4; omega) (by show t.toNat ≠ u.toNat; omega)
  have y := wit_lt (t := t.toNat) (u := u.toNat) (by omega) (by omega)
  dsimp only at z
  rw [show ((t.toNat : Nat) : Int) = t by omega, show ((u.toNat : Nat) : Int) = u by omega] at z
  exact ⟨wit t.toNat u.toNat, y.1, z, by omega⟩
theorem prt_none {t u : Int} (h : 1 ≤ t ∧ t ≤ 60 ∧ t ≠ 4) (k : 1 ≤ u ∧ u ≤ 60 ∧ u ≠ 4) : prt t u = none ↔ t = u := by
  constructor
  · intro e
    apply Classical.byContradiction
    intro ne
    obtain ⟨i, h1, h2, _⟩ := dif_small h k ne
    rw [(fst_none 60).mp e i h1] at h2
    cases h2
  · rintro rfl
    exact prt_same t
end Mt
set_option Elab.async false
set_option linter.all false
/-! knots: which there are, their numbers -/
namespace Mt
theorem at_drop {M : List Int} {b c : Nat} (h : b < c) (hc : c < M.length) : M.getD c 0 ∈ M.drop (b + 1) := by
  have e : M.getD c 0 = (M.drop (b + 1)).getD (c - (b + 1)) 0 := by
    rw [List.getD_eq_getElem?_getD, List.getD_eq_getElem?_getD, List.getElem?_drop, show b + 1 + (c - (b + 1)) = c by omega]
  rw [e]
  exact at_mem (by rw [List.length_drop]; omega)
theorem has3 {n x y z : Int} : hasOp n [x, y, z] = false ↔ opp n x y = false ∧ opp n x z = false ∧ opp n y z = false := by
  constructor
  · intro h
    have f : ∀ a b : Nat, a < b → b < 3 → opp n ([x, y, z].getD a 0) ([x, y, z].getD b 0) = false := by
      intro a b h1 h2
      cases e : opp n ([x, y, z].getD a 0) ([x, y, z].getD b 0) with
      | false => rfl
      | true => rw [(hasOp_iff (M := [x, y, z])).mpr ⟨a, b, h1, h2, e⟩] at h; cases h
    exact ⟨f 0 1 (by decide) (by decide), f 0 2 (by decide) (by decide), f 1 2 (by decide) (by decide)⟩
  · rintro ⟨h1, h2, h3⟩
    cases e : hasOp n [x, y, z] with
    | false => rfl
    | true =>
      obtain ⟨a, b, l1, l2, o⟩ := hasOp_iff.mp e
      have l2' : b < 3 := l2
      have c : (a = 0 ∧ b = 1) ∨ (a = 0 ∧ b = 2) ∨ (a = 1 ∧ b = 2) := by omega
      rcases c with ⟨rfl, rfl⟩ | ⟨rfl, rfl⟩ | ⟨rfl, rfl⟩
      · exact h1.symm.trans o |>.symm ▸ rfl
      · exact h2.symm.trans o |>.symm ▸ rfl
      · exact h3.symm.trans o |>.symm ▸ rfl
/-- pairs and threes -/
def KP (n : Int) (M : List Int) (k : List Int) : Prop := ∃ i j, i < j ∧ j < M.length ∧ opp n (M.getD i 0) (M.getD j 0) = true ∧ k = [M.getD i 0, M.getD j 0]
def KT (n : Int) (M : List Int) (k : List Int) : Prop := ∃ i j l, i < j ∧ j < l ∧ l < M.length ∧ hasOp n [M.getD i 0, M.getD j 0, M.getD l 0] = false ∧ k = [M.getD i 0, M.getD j 0, M.getD l 0]
theorem mem_kn2 {n : Int} {M : List Int} {k : List Int} : k ∈ kn n M ↔ KP n M k ∨ KT n M k := by
  rw [mem_kn]
  constructor
  · rintro ⟨a, b, h1, h2, h⟩
    rcases mem_knB.mp h with ⟨o, rfl⟩ | ⟨o, c, hc, o2, o3, rfl⟩
    · exact .inl ⟨a, b, h1, h2, o, rfl⟩
    · obtain ⟨l, l1, l2, rfl⟩ := drop_at hc
      exact .inr ⟨a, b, l, h1, by omega, l2, has3.mpr ⟨o, opp_comm.trans o3, opp_comm.trans o2⟩, rfl⟩
  · rintro (⟨i, j, h1, h2, o, rfl⟩ | ⟨i, j, l, h1, h2, h3, o, rfl⟩)
    · exact ⟨i, j, h1, h2, mem_knB.mpr (.inl ⟨o, rfl⟩)⟩
    · obtain ⟨o1, o2, o3⟩ := has3.mp o
      exact ⟨i, j, h1, by omega, mem_knB.mpr (.inr ⟨o1, _, at_drop h2 h3, opp_comm.trans o3, opp_comm.trans o2, rfl⟩)⟩
theorem kn_lens {n : Int} {M k : List Int} (hk : k ∈ kn n M) : k.length = 2 ∨ k.length = 3 := by
  rcases mem_kn2.mp hk with ⟨i, j, _, _, _, rfl⟩ | ⟨i, j, l, _, _, _, _, rfl⟩
  · exact .inl rfl
  · exact .inr rfl
/-! needless feet -/
end Mt
set_option Elab.async false
set_option linter.all false
/-! knots stand once; pairs and threes in a row -/
namespace Mt
theorem at_inj {M : List Int} (hs : M.Pairwise (· < ·)) {i j : Nat} (hi : i < M.length) (hj : j < M.length) (e : M.getD i 0 = M.getD j 0) : i = j := by
  rcases Nat.lt_trichotomy i j with h | h | h
  · have := sorted_at hs h hj; omega
  · exact h
  · have := sorted_at hs h hi; omega
theorem knB_two {n : Int} {M k : List Int} {a b : Nat} (h : k ∈ knB n M a b) : k.getD 0 0 = M.getD a 0 ∧ k.getD 1 0 = M.getD b 0 := by
  rcases mem_knB.mp h with ⟨_, rfl⟩ | ⟨_, c, _, _, _, rfl⟩ <;> exact ⟨rfl, rfl⟩
theorem nodup_kn {n : Int} {M : List Int} (hs : M.Pairwise (· < ·)) : (kn n M).Nodup := by
  unfold kn
  refine List.pairwise_flatMap.mpr ⟨fun a ha => ?_, ?_⟩
  · have la := List.mem_range.mp ha
    unfold knA
    refine List.pairwise_flatMap.mpr ⟨fun i hi => ?_, ?_⟩
    · have li := List.mem_range.mp hi
      unfold knB
      split
      · exact List.pairwise_singleton _ _
      · refine List.pairwise_flatMap.mpr ⟨fun c hc => ?_, ?_⟩
        · unfold knC
          split
          · exact List.Pairwise.nil
          · exact List.pairwise_singleton _ _
        · have nd : (inC n M (a + 1 + i)).Pairwise (· < ·) := (hs.sublist (List.drop_sublist _ _)).sublist List.filter_sublist
          refine nd.imp fun {c c'} hlt x hx y hy e => ?_
          obtain ⟨_, rfl⟩ := mem_knC.mp hx
          obtain ⟨_, rfl⟩ := mem_knC.mp hy
          simp only [List.cons.injEq, and_true, true_and] at e
          omega
    · refine (List.pairwise_lt_range).imp_of_mem fun {i j} hi hj hlt x hx y hy e => ?_
      subst e
      have li := List.mem_range.mp hi
      have lj := List.mem_range.mp hj
      have z := at_inj hs (by omega) (by omega) ((knB_two hx).2.symm.trans (knB_two hy).2)
      omega
  · refine (List.pairwise_lt_range).imp_of_mem fun {a b} ha hb hlt x hx y hy e => ?_
    subst e
    have la := List.mem_range.mp ha
    have lb := List.mem_range.mp hb
    obtain ⟨i, _, h1⟩ := List.mem_flatMap.mp hx
    obtain ⟨j, _, h2⟩ := List.mem_flatMap.mp hy
    have z := at_inj hs la lb ((knB_two h1).1.symm.trans (knB_two h2).1)
    omega
end Mt
set_option linter.all false
set_option maxRecDepth 100000
/-! frames of one kind: marks turned, spread, left out -/
namespace Mt
def srtI (L : List Int) : List Int := L.mergeSort fun a b => decide (a ≤ b)
theorem srtI_perm (L : List Int) : (srtI L).Perm L := List.mergeSort_perm L _
theorem srtI_le (L : List Int) : (srtI L).Pairwise fun a b => decide (a ≤ b) = true :=
  List.pairwise_mergeSort (le := fun p q : Int => decide (p ≤ q)) (fun a b c h1 h2 => decide_eq_true (Int.le_trans (of_decide_eq_true h1) (of_decide_eq_true h2))) (fun a b => by
    rcases Int.le_total a b with h | h
    · rw [decide_eq_true h]; rfl
    · rw [decide_eq_true h, Bool.or_true]) L
theorem srtI_lt {L : List Int} (h : L.Nodup) : (srtI L).Pairwise (· < ·) :=
  ((srtI_le L).and ((srtI_perm L).nodup_iff.mpr h)).imp fun {a b} z => by
    have := of_decide_eq_true z.1
    have := z.2
    omega
theorem asc_uniq {A B : List Int} (hp : A.Perm B) (hA : A.Pairwise (· < ·)) (hB : B.Pairwise (· < ·)) : A = B :=
  List.Perm.eq_of_pairwise (fun a b _ _ h1 h2 => by omega) hA hB hp
theorem asc_mem {A B : List Int} (hA : A.Pairwise (· < ·)) (hB : B.Pairwise (· < ·)) (h : ∀ x, x ∈ A ↔ x ∈ B) : A = B :=
  asc_uniq ((List.perm_ext_iff_of_nodup (hA.imp fun h => by omega) (hB.imp fun h => by omega)).mpr h) hA hB
/-- a knot by its members -/
def KS (n : Int) (M k : List Int) : Prop := k.Pairwise (· < ·) ∧ (∀ x ∈ k, x ∈ M) ∧ ((k.length = 2 ∧ ∀ x ∈ k, ∀ y ∈ k, opp n x y = true) ∨ (k.length = 3 ∧ ∀ x ∈ k, ∀ y ∈ k, x ≠ y → opp n x y = false))
theorem mem_ks {n : Int} {M : List Int} (hs : M.Pairwise (· < ·)) {k : List Int} : k ∈ kn n M ↔ KS n M k := by
  constructor
  · intro hk
    refine ⟨?_, kn_sub hk, ?_⟩
    · rcases mem_kn2.mp hk with ⟨i, j, h1, h2, _, rfl⟩ | ⟨i, j, l, h1, h2, h3, _, rfl⟩
      · have a1 := sorted_at hs h1 h2
        exact List.pairwise_cons.mpr ⟨fun y hy => by rw [List.mem_singleton.mp hy]; exact a1, List.pairwise_singleton _ _⟩
      · have a1 := sorted_at hs h1 (by omega)
        have a2 := sorted_at hs h2 h3
        refine List.pairwise_cons.mpr ⟨fun y hy => ?_, List.pairwise_cons.mpr ⟨fun y hy => by rw [List.mem_singleton.mp hy]; exact a2, List.pairwise_singleton _ _⟩⟩
        rcases List.mem_cons.mp hy with rfl | hy
        · exact a1
        · rw [List.mem_singleton.mp hy]; omega
    · rcases mem_kn2.mp hk with ⟨i, j, h1, h2, o, rfl⟩ | ⟨i, j, l, h1, h2, h3, o, rfl⟩
      · refine .inl ⟨rfl, fun x hx y hy => ?_⟩
        simp only [List.mem_cons, List.not_mem_nil, or_false] at hx hy
        rcases hx with rfl | rfl <;> rcases hy with rfl | rfl
        · exact opp_refl
        · exact o
        · exact opp_symm o
        · exact opp_refl
      · obtain ⟨o1, o2, o3⟩ := has3.mp o
        refine .inr ⟨rfl, fun x hx y hy ne => ?_⟩
        simp only [List.mem_cons, List.not_mem_nil, or_false] at hx hy
        rcases hx with rfl | rfl | rfl <;> rcases hy with rfl | rfl | rfl
        · exact absurd rfl ne
        · exact o1
        · exact o2
        · exact opp_comm.trans o1
        · exact absurd rfl ne
        · exact o3
        · exact opp_comm.trans o2
        · exact opp_comm.trans o3
        · exact absurd rfl ne
  · rintro ⟨hp, hm, h⟩
    rcases h with ⟨l2, o⟩ | ⟨l3, o⟩
    · match k, l2 with
      | [x, y], _ =>
        obtain ⟨i, hi, ei⟩ := mem_at (hm x (by simp))
        obtain ⟨j, hj, ej⟩ := mem_at (hm y (by simp))
        have lt : x < y := by simpa using hp
        have ij : i < j := by
          rcases Nat.lt_trichotomy i j with h | h | h
          · exact h
          · subst h; omega
          · have := sorted_at hs h hi; omega
        exact mem_kn2.mpr (.inl ⟨i, j, ij, hj, by rw [← ei, ← ej]; exact o x (by simp) y (by simp), by rw [← ei, ← ej]⟩)
    · match k, l3 with
      | [x, y, z], _ =>
        obtain ⟨i, hi, ei⟩ := mem_at (hm x (by simp))
        obtain ⟨j, hj, ej⟩ := mem_at (hm y (by simp))
        obtain ⟨l, hl, el⟩ := mem_at (hm z (by simp))
        have lt : (x < y ∧ x < z) ∧ y < z := by simpa using hp
        have ij : i < j := by
          rcases Nat.lt_trichotomy i j with h | h | h
          · exact h
          · subst h; omega
          · have := sorted_at hs h hi; omega
        have jl : j < l := by
          rcases Nat.lt_trichotomy j l with h | h | h
          · exact h
          · subst h; omega
          · have := sorted_at hs h hj; omega
        refine mem_kn2.mpr (.inr ⟨i, j, l, ij, jl, hl, ?_, by rw [← ei, ← ej, ← el]⟩)
        rw [← ei, ← ej, ← el]
        exact has3.mpr ⟨o x (by simp) y (by simp) (by omega), o x (by simp) z (by simp) (by omega), o y (by simp) z (by simp) (by omega)⟩
/-- marks by marks: differences times b are whole rounds just where they were -/
structure Kin (n n' b : Int) (f : Int → Int) : Prop where
  n0 : 0 < n
  n1 : 0 < n'
  iff : ∀ d, n ∣ d ↔ n' ∣ b * d
  df : ∀ x y, n' ∣ (f x - f y) - b * (x - y)
theorem Kin.al {n n' b : Int} {f : Int → Int} (K : Kin n n' b f) {c x y : Int} : n' ∣ c * (f x - f y) ↔ n ∣ c * (x - y) := by
  rw [K.iff]
  obtain ⟨q, z⟩ := K.df x y
  constructor
  · rintro ⟨r, h⟩
    exact ⟨r - c * q, by grind⟩
  · rintro ⟨r, h⟩
    exact ⟨r + c * q, by grind⟩
theorem Kin.opp {n n' b : Int} {f : Int → Int} (K : Kin n n' b f) {x y : Int} : opp n' (f x) (f y) = opp n x y := by
  rw [Bool.eq_iff_iff, opp_iff, opp_iff]
  exact K.al
theorem res_eq {n x y : Int} (hx : 0 ≤ x ∧ x ≤ n - 1) (hy : 0 ≤ y ∧ y ≤ n - 1) (h : n ∣ 1 * (x - y)) : x = y := by
  obtain ⟨q, e⟩ := h
  have n0 : 0 < n := by omega
  rcases Int.lt_trichotomy q 0 with h | h | h
  · have : n * q ≤ n * (-1) := Int.mul_le_mul_of_nonneg_left (by omega) (by omega)
    omega
  · subst h; omega
  · have : n * 1 ≤ n * q := Int.mul_le_mul_of_nonneg_left (by omega) (by omega)
    omega
theorem Kin.inj {n n' b : Int} {f : Int → Int} (K : Kin n n' b f) {M : List Int} (hb : ∀ m ∈ M, 0 ≤ m ∧ m ≤ n - 1) {x y : Int} (hx : x ∈ M) (hy : y ∈ M) (e : f x = f y) : x = y := by
  refine res_eq (hb x hx) (hb y hy) (K.al.mp ?_)
  rw [e, Int.sub_self, Int.mul_zero]
  exact Int.dvd_zero _
theorem nodup_mapOn {f : Int → Int} : ∀ {M : List Int}, M.Nodup → (∀ x ∈ M, ∀ y ∈ M, f x = f y → x = y) → (M.map f).Nodup
  | [], _, _ => List.Pairwise.nil
  | m :: M, h, i => by
    rw [List.map_cons]
    have h' := List.pairwise_cons.mp h
    refine List.pairwise_cons.mpr ⟨fun y hy e => ?_, nodup_mapOn h'.2 fun x hx y hy => i x (List.mem_cons_of_mem _ hx) y (List.mem_cons_of_mem _ hy)⟩
    obtain ⟨x, hx, rfl⟩ := List.mem_map.mp hy
    exact h'.1 x hx (i m List.mem_cons_self x (List.mem_cons_of_mem _ hx) e)
theorem nodup_unmap {f : Int → Int} : ∀ {M : List Int}, (M.map f).Nodup → M.Nodup
  | [], _ => List.Pairwise.nil
  | m :: M, h => by
    rw [List.map_cons] at h
    have h' := List.pairwise_cons.mp h
    exact List.pairwise_cons.mpr ⟨fun x hx e => h'.1 (f x) (List.mem_map.mpr ⟨x, hx, rfl⟩) (by rw [e]), nodup_unmap h'.2⟩
theorem pre_map {f : Int → Int} {M : List Int} : ∀ {k : List Int}, (∀ x ∈ k, x ∈ M.map f) → ∃ p : List Int, p.map f = k ∧ ∀ x ∈ p, x ∈ M
  | [], _ => ⟨[], rfl, fun _ h => nomatch h⟩
  | x :: k, h => by
    obtain ⟨p, e, hp⟩ := pre_map (k := k) fun y hy => h y (List.mem_cons_of_mem _ hy)
    obtain ⟨m, hm, em⟩ := List.mem_map.mp (h x List.mem_cons_self)
    exact ⟨m :: p, by rw [List.map_cons, e, em], fun y hy => (List.mem_cons.mp hy).elim (fun z => z ▸ hm) (hp y)⟩
section
variable {n n' b : Int} {f : Int → Int} {M : List Int}
abbrev frm (f : Int → Int) (k : List Int) : List Int := srtI (k.map f)
theorem frm_mem {k : List Int} {x : Int} : x ∈ frm f k ↔ ∃ y ∈ k, f y = x := by
  rw [(srtI_perm _).mem_iff, List.mem_map]
theorem frm_len {k : List Int} : (frm f k).length = k.length := by rw [(srtI_perm _).length_eq, List.length_map]
theorem Kin.asc (K : Kin n n' b f) (hb : ∀ m ∈ M, 0 ≤ m ∧ m ≤ n - 1) {k : List Int} (hk : k.Nodup) (hm : ∀ x ∈ k, x ∈ M) : (frm f k).Pairwise (· < ·) :=
  srtI_lt (nodup_mapOn hk fun x hx y hy e => K.inj hb (hm x hx) (hm y hy) e)
theorem Kin.fwd (K : Kin n n' b f) (hb : ∀ m ∈ M, 0 ≤ m ∧ m ≤ n - 1) {k : List Int} (h : KS n M k) : KS n' (frm f M) (frm f k) := by
  obtain ⟨hp, hm, h⟩ := h
  refine ⟨K.asc hb (hp.imp fun h => by omega) hm, fun x hx => ?_, ?_⟩
  · obtain ⟨y, hy, rfl⟩ := frm_mem.mp hx
    exact frm_mem.mpr ⟨y, hm y hy, rfl⟩
  · rw [frm_len]
    rcases h with ⟨l, o⟩ | ⟨l, o⟩
    · refine .inl ⟨l, fun x hx y hy => ?_⟩
      obtain ⟨u, hu, rfl⟩ := frm_mem.mp hx
      obtain ⟨v, hv, rfl⟩ := frm_mem.mp hy
      rw [K.opp]; exact o u hu v hv
    · refine .inr ⟨l, fun x hx y hy ne => ?_⟩
      obtain ⟨u, hu, rfl⟩ := frm_mem.mp hx
      obtain ⟨v, hv, rfl⟩ := frm_mem.mp hy
      rw [K.opp]; exact o u hu v hv fun e => ne (by rw [e])
theorem Kin.bwd (K : Kin n n' b f) {k : List Int} (h : KS n' (frm f M) k) : ∃ q, KS n M q ∧ k = frm f q := by
  obtain ⟨hp, hm, h⟩ := h
  obtain ⟨p, e, hpm⟩ := pre_map (f := f) (M := M) (k := k) fun x hx => (srtI_perm _).mem_iff.mp (hm x hx)
  have nk : k.Nodup := hp.imp fun h => by omega
  have np : p.Nodup := nodup_unmap (f := f) (by rw [e]; exact nk)
  have mp : ∀ {x : Int}, x ∈ srtI p ↔ x ∈ p := (srtI_perm p).mem_iff
  have fk : ∀ x ∈ srtI p, f x ∈ k := fun x hx => by rw [← e]; exact List.mem_map.mpr ⟨x, mp.mp hx, rfl⟩
  have el : (srtI p).length = k.length := by rw [(srtI_perm p).length_eq, ← e, List.length_map]
  refine ⟨srtI p, ⟨srtI_lt np, fun x hx => hpm x (mp.mp hx), ?_⟩, ?_⟩
  · rw [el]
    rcases h with ⟨l, o⟩ | ⟨l, o⟩
    · exact .inl ⟨l, fun x hx y hy => by rw [← K.opp]; exact o _ (fk x hx) _ (fk y hy)⟩
    · refine .inr ⟨l, fun x hx y hy ne => ?_⟩
      rw [← K.opp]
      refine o _ (fk x hx) _ (fk y hy) fun z => ne ?_
      have hx' := mp.mp hx
      have hy' := mp.mp hy
      obtain ⟨i, hi, ei⟩ := List.mem_iff_getElem.mp hx'
      obtain ⟨j, hj, ej⟩ := List.mem_iff_getElem.mp hy'
      have nd := List.nodup_iff_pairwise_ne.mp (show (p.map f).Nodup by rw [e]; exact nk)
      rcases Nat.lt_trichotomy i j with h | h | h
      · have w := List.pairwise_iff_getElem.mp nd i j (by rw [List.length_map]; exact hi) (by rw [List.length_map]; exact hj) h
        rw [List.getElem_map, List.getElem_map, ei, ej] at w
        exact absurd z w
      · subst h
        exact ei.symm.trans ej
      · have w := List.pairwise_iff_getElem.mp nd j i (by rw [List.length_map]; exact hj) (by rw [List.length_map]; exact hi) h
        rw [List.getElem_map, List.getElem_map, ei, ej] at w
        exact absurd z.symm w
  · refine asc_uniq ?_ hp (srtI_lt ?_)
    · rw [← e]
      exact ((srtI_perm p).map f).symm.trans (srtI_perm _).symm
    · refine ((srtI_perm p).map f).nodup_iff.mpr ?_
      rw [e]; exact nk
theorem Kin.kn (K : Kin n n' b f) (hb : ∀ m ∈ M, 0 ≤ m ∧ m ≤ n - 1) (hs : M.Pairwise (· < ·)) : (kn n' (frm f M)).Perm ((kn n M).map (frm f)) := by
  have hn : M.Nodup := hs.imp fun h => by omega
  have ha := K.asc (M := M) hb hn fun _ h => h
  refine (List.perm_ext_iff_of_nodup (nodup_kn ha) ?_).mpr fun k => ?_
  · refine List.pairwise_map.mpr ((nodup_kn hs).imp_of_mem fun {p q} hp hq ne e => ne ?_)
    have kp := (mem_ks hs).mp hp
    have kq := (mem_ks hs).mp hq
    refine asc_mem kp.1 kq.1 fun x => ?_
    constructor
    · intro hx
      obtain ⟨y, hy, ey⟩ := frm_mem.mp (by rw [← e]; exact frm_mem.mpr ⟨x, hx, rfl⟩)
      rw [K.inj hb (kp.2.1 x hx) (kq.2.1 y hy) ey.symm]; exact hy
    · intro hx
      obtain ⟨y, hy, ey⟩ := frm_mem.mp (by rw [e]; exact frm_mem.mpr ⟨x, hx, rfl⟩)
      rw [K.inj hb (kq.2.1 x hx) (kp.2.1 y hy) ey.symm]; exact hy
  · rw [mem_ks ha, List.mem_map]
    constructor
    · intro h
      obtain ⟨q, hq, e⟩ := K.bwd h
      exact ⟨q, (mem_ks hs).mpr hq, e.symm⟩
    · rintro ⟨q, hq, rfl⟩
      exact K.fwd hb ((mem_ks hs).mp hq)
theorem Kin.alk (K : Kin n n' b f) {c : Int} {k : List Int} : Al n' c (frm f k) ↔ Al n c k := by
  constructor
  · intro h x hx y hy
    exact K.al.mp (h (f x) (frm_mem.mpr ⟨x, hx, rfl⟩) (f y) (frm_mem.mpr ⟨y, hy, rfl⟩))
  · intro h x hx y hy
    obtain ⟨u, hu, rfl⟩ := frm_mem.mp hx
    obtain ⟨v, hv, rfl⟩ := frm_mem.mp hy
    exact K.al.mpr (h u hu v hv)
theorem Kin.letk (K : Kin n n' b f) {j : Int} {k : List Int} (h0 : 0 < k.length) : letB j (n' / spr n' (frm f k)) = letB j (n / spr n k) := by
  rw [Bool.eq_iff_iff, let_iff K.n1 (by rw [frm_len]; exact h0), let_iff K.n0 h0, K.alk, K.alk]
theorem num_uniq {t u : Int} (h : 1 ≤ t ∧ t ≤ 60 ∧ t ≠ 4) (k : 1 ≤ u ∧ u ≤ 60 ∧ u ≠ 4) (e : ∀ j, letB j t = true ↔ letB j u = true) : t = u := by
  refine (prt_none h k).mp ((fst_none 60).mpr fun i _ => ?_)
  unfold dif
  rw [Bool.eq_iff_iff.mpr (e (1 + (i : Int)))]
  cases letB (1 + (i : Int)) u <;> rfl
theorem Kin.num (K : Kin n n' b f) (hn : 2 ≤ n ∧ n ≤ 60) (hn' : 2 ≤ n' ∧ n' ≤ 60) (hm : 2 ≤ M.length ∧ M.length ≤ 8) (hb : ∀ m ∈ M, 0 ≤ m ∧ m ≤ n - 1) (hb' : ∀ m ∈ frm f M, 0 ≤ m ∧ m ≤ n' - 1) (hs : M.Pairwise (· < ·)) : numI n' (frm f M) = numI n M := by
  have hn0 : M.Nodup := hs.imp fun h => by omega
  have a := numI_spec hn hm hb hs
  have c := numI_spec hn' (M := frm f M) (by rw [frm_len]; exact hm) hb' (K.asc (M := M) hb hn0 fun _ h => h)
  refine num_uniq ⟨c.1, c.2.2.2.1, c.2.1⟩ ⟨a.1, a.2.2.2.1, a.2.1⟩ fun j => ?_
  rw [← a.2.2.2.2 j, ← c.2.2.2.2 j]
  have pk := K.kn hb hs
  constructor
  · intro h k hk
    have l := kn_lens hk
    rw [← K.letk (by omega)]
    exact h _ (pk.mem_iff.mpr (List.mem_map.mpr ⟨k, hk, rfl⟩))
  · intro h k hk
    obtain ⟨q, hq, rfl⟩ := List.mem_map.mp (pk.mem_iff.mp hk)
    have l := kn_lens hq
    rw [K.letk (by omega)]
    exact h q hq
end
end Mt
set_option Elab.async false
set_option linter.all false
set_option maxRecDepth 100000
set_option maxHeartbeats 4000000
/-! enumerate(t), t[::-1], sorted ints, a, b, c = e, a list, f; lots of frames -/
namespace PySem
open Sem (wp)
theorem en0_type (u : Value) : checkTypeCall "enumerate" ⟨[u], []⟩ = pure () := by kernel_rfl
theorem en0_new (u : Value) : checkBuiltinCall "enumerate.__new__" ⟨[.type "enumerate", u], []⟩ = pure () := by kernel_rfl
set_option maxHeartbeats 1000000 in
theorem en0_meets {u : Value} {ob : Obj} {G : Heap → Prop} (B : Begins u ob G) :
    Meets (Builtin.«enumerate.__new__» ⟨[.type "enumerate", u], []⟩) (fun _ R s => G s.heap ∧
      R (.ok (.ret (.ref (s.heap.push ob).objs.size))) { s with heap := (s.heap.push ob).push { cls := .type "enumerate", data := .fields #[.none, .bool false, .ref s.heap.objs.size, rawInt 0, .none, .none] } }) :=
  .of_wp fun prog w A R s hh => by
    obtain ⟨h0, gl, dd, tt, oo⟩ := s
    obtain ⟨hG, hh⟩ := hh
    have hsub := sub_enumerate
    have bi : ∀ {A' : Around} {E : Value → Shared → Prop} {Q : Value → Shared → Prop}, Q (.ref h0.objs.size) ⟨h0.push ob, gl, dd, tt, oo⟩ → wpAny (model prog w) A' (pyIter u) Q E ⟨h0, gl, dd, tt, oo⟩ :=
      fun q => B.iter prog w _ _ ⟨h0, gl, dd, tt, oo⟩ _ hG q
    wp_walk using bi
    refine wpAny_stack_any fun st => wpAny_pure ?_
    split
    · rename_i c _ _ _ _ _
      cases (c == Value.type "enumerate")
      · wp_walk using bi
        exact ⟨_, rfl, hh⟩
      · wp_walk using bi
        exact ⟨_, rfl, hh⟩
    · wp_walk using bi
      exact ⟨_, rfl, hh⟩
theorem en0_begins {prog : Program} {w : World} {A : Around} {E : Value → Shared → Prop} {s : Shared} {u : Value} {ob : Obj} {G : Heap → Prop} {Q : Value → Shared → Prop} (B : Begins u ob G) (hG : G s.heap)
    (hQ : ∀ hp, IsEnum hp (s.heap.objs.size + 1) s.heap.objs.size 0 .none → hp.get? s.heap.objs.size = some ob → hp.objs.size = s.heap.objs.size + 2 → (∀ b o, s.heap.get? b = some o → hp.get? b = some o) → Q (.ref (s.heap.objs.size + 1)) { s with heap := hp }) :
    wpAny (model prog w) A (call (.type "enumerate") [u]) Q E s := by
  refine callType_new F.called_enumerate (by decide) (en0_type _) (en0_new _) (fun obj => F.args_object_init_2 obj _) F.entry_enumerate_new (en0_meets B) ⟨hG, ?_⟩
  have sz : (s.heap.push ob).objs.size = s.heap.objs.size + 1 := Heap.size_push ..
  show _ ∧ _
  rw [sz]
  have is : IsEnum ((s.heap.push ob).push { cls := .type "enumerate", data := .fields #[.none, .bool false, .ref s.heap.objs.size, rawInt 0, .none, .none] }) (s.heap.objs.size + 1) s.heap.objs.size 0 .none := by
    have z := Heap.get?_push_size (s.heap.push ob) (o := { cls := .type "enumerate", data := .fields #[.none, .bool false, .ref s.heap.objs.size, rawInt 0, .none, .none] }) rfl
    rw [sz] at z
    exact z
  exact ⟨⟨_, is, rfl⟩, hQ _ is (Heap.get?_push_of_some _ (Heap.get?_push_size _ B.free)) (by rw [Heap.size_push, sz]) fun b o x => Heap.get?_push_of_some _ (Heap.get?_push_of_some _ x)⟩
end PySem
namespace Vd
open PySem PySem.Spec PyProof.Rows L2 Mt
def iEn0 (K : Fr) (ta : TA) : TI := fun σ H R => ta σ H fun vs H1 => ∃ (t : Bool) (a : Addr) (xs : List V), vs = [.ref a] ∧ Sq K t H1 a xs ∧ R (Itn K t 0 a) H1
theorem pi_en0 {X : Cx} {e : Expr} {ta : TA} {p pos tpos : Pos} {elts : List Expr} {kk : Nat} (hg : Gl X "enumerate") (hm : X.mg "enumerate" = none) (ha : PA X [e] ta) (he : starEach [e] X.env = [(false, eval e X.env)] := by rfl) :
    PI X (.Tuple elts kk tpos) (.Call (.Name "enumerate" p) [e] [] pos) (iEn0 X.K ta) := by
  refine ⟨fun pins s σ H R I hh => ?_⟩
  refine Call_ (ld_blt I hg hm boot_enumerate (PyProof.Rows.callWith_type1 (thn (ha.run pos pins s σ H _ I hh) fun us s2 ⟨vs, H2, I2, r2, q2⟩ => ?_) he rfl))
  obtain ⟨t, a, xs, ev, qa, q⟩ := q2
  subst ev
  obtain _ | ⟨ra, rz⟩ := r2
  cases rz
  cases ra
  obtain ⟨cs, va, ca, la⟩ := cells_of I2 qa
  refine en0_begins (begins_of t a cs.toArray) ca fun hp hen hit hsz kp => wpAny_pyIter_enum hen ?_
  have I3 : Inv X pins σ H2 { s2 with heap := hp } := I2.kept (t' := s2.toks) kp
  have fp : ∀ b ∈ [s2.heap.objs.size + 1, s2.heap.objs.size], FpOk X pins H2 b := fun b hb => by
    have or2 : b = s2.heap.objs.size + 1 ∨ b = s2.heap.objs.size := by simpa using hb
    have ge : s2.heap.objs.size ≤ b := by omega
    exact I2.fpOk ge (I2.hok.fresh ge)
  refine ⟨s2.heap.objs.size + 1, [s2.heap.objs.size + 1, s2.heap.objs.size], _, _, H2, rfl, I3, turn_n (t := t) (k := 0) (a := a) (Nat.succ_ne_self _) (fun z => ?_), ⟨⟨.none, ?_⟩, steps_of hit⟩, fp, q⟩
  · rw [← z] at la
    exact absurd la (Nat.not_lt.mpr (Nat.le_succ _))
  · rw [show (0 : Int) + ((0 : Nat) : Int) = 0 by omega]
    exact hen
end Vd
set_option Elab.async false
set_option linter.all false
/-! powers of a reduced turn stand reduced -/
namespace Mt
def qn (P : Pt) : Pt := ⟨(tn P).a, (tn P).b, (tn P).m⟩
theorem qn_ok {P : Pt} (h : P.Ok) : (qn P).Ok := ⟨tn_pos h, tn_sq h⟩
theorem qn_sim {P : Pt} (h : P.Ok) : Sim (qn P) P := by
  obtain ⟨g, gp, e1, e2, e3⟩ := tn_eqs h
  constructor
  · show (tn P).a * P.r = P.x * (tn P).m
    rw [← e1, ← e3]
    generalize (tn P).a = a
    generalize (tn P).m = m
    grind
  · show (tn P).b * P.r = P.y * (tn P).m
    rw [← e2, ← e3]
    generalize (tn P).b = a
    generalize (tn P).m = m
    grind
theorem Sim.pow {P Q : Pt} (h : Sim P Q) : ∀ n, Sim (P.pow n) (Q.pow n)
  | 0 => Sim.rfl _
  | n + 1 => (Sim.pow h n).mul h
theorem gc_cop {n m : Int} : gc n m = 1 ↔ Nat.Coprime n.natAbs m.natAbs := by
  unfold gc Nat.Coprime
  omega
theorem gc_of (n m c : Int) : gc (n + m * c) m = gc n m := congrArg Int.ofNat (Int.gcd_add_mul_left_left m n c)
theorem gc_mul_l {a b m : Int} (h : gc a m = 1) (k : gc b m = 1) : gc (a * b) m = 1 := by
  rw [gc_cop] at h k ⊢
  rw [Int.natAbs_mul]
  exact Nat.Coprime.mul_left h k
theorem gc_mul_r {a m k : Int} (h : gc a m = 1) (l : gc a k = 1) : gc a (m * k) = 1 := by
  rw [gc_cop] at h l ⊢
  rw [Int.natAbs_mul]
  exact Nat.Coprime.mul_right h l
theorem even_gc {a m : Int} (h : gc a m = 1) (ha : a % 2 = 0) (hm : m % 2 = 0) : False := by
  rw [gc_cop] at h
  have d : 2 ∣ Nat.gcd a.natAbs m.natAbs := Nat.dvd_gcd (by omega) (by omega)
  rw [show Nat.gcd a.natAbs m.natAbs = 1 from h] at d
  omega
theorem odd_m {P : Pt} (h : P.Ok) : gc 2 (tn P).m = 1 := by
  have s := tn_sq h
  have g := tn_gcx h
  generalize (tn P).a = a at *
  generalize (tn P).b = b at *
  generalize (tn P).m = m at *
  have odd : m % 2 = 1 := by
    apply Classical.byContradiction
    intro z
    have m0 : m % 2 = 0 := by omega
    by_cases a0 : a % 2 = 0
    · exact even_gc g a0 m0
    · obtain ⟨k, rfl⟩ : ∃ k, m = 2 * k := ⟨m / 2, by omega⟩
      obtain ⟨c, rfl⟩ : ∃ c, a = 2 * c + 1 := ⟨a / 2, by omega⟩
      have e1 : (2 * c + 1) * (2 * c + 1) = 4 * (c * c + c) + 1 := by grind
      have e3 : 2 * k * (2 * k) = 4 * (k * k) := by grind
      by_cases b0 : b % 2 = 0
      · obtain ⟨d, rfl⟩ : ∃ d, b = 2 * d := ⟨b / 2, by omega⟩
        have e2 : 2 * d * (2 * d) = 4 * (d * d) := by grind
        omega
      · obtain ⟨d, rfl⟩ : ∃ d, b = 2 * d + 1 := ⟨b / 2, by omega⟩
        have e2 : (2 * d + 1) * (2 * d + 1) = 4 * (d * d + d) + 1 := by grind
        omega
  rw [gc_cop]
  have d := Nat.gcd_dvd_left (Int.natAbs 2) m.natAbs
  have d' := Nat.gcd_dvd_right (Int.natAbs 2) m.natAbs
  have l := Nat.le_of_dvd (by decide) d
  have p := Nat.gcd_pos_of_pos_left m.natAbs (show 0 < Int.natAbs 2 by decide)
  show Nat.gcd _ _ = 1
  apply Classical.byContradiction
  intro z
  have l2 : Nat.gcd (Int.natAbs 2) m.natAbs ≤ 2 := l
  rw [show Nat.gcd (Int.natAbs 2) m.natAbs = 2 by omega] at d'
  omega
theorem pow_inv {P : Pt} (h : P.Ok) : ∀ n, ∃ c u v : Int, gc c (tn P).m = 1 ∧ ((qn P).pow (n + 1)).x = c * (tn P).a + (tn P).m * u ∧ ((qn P).pow (n + 1)).y = c * (tn P).b + (tn P).m * v
  | 0 => ⟨1, 0, 0, by unfold gc; rw [show (1 : Int).natAbs = 1 from rfl, Nat.gcd_one_left]; rfl, by
      show (Pt.one.mul (qn P)).x = _
      rw [one_mul, Int.one_mul, Int.mul_zero, Int.add_zero]; rfl, by
      show (Pt.one.mul (qn P)).y = _
      rw [one_mul, Int.one_mul, Int.mul_zero, Int.add_zero]; rfl⟩
  | n + 1 => by
    obtain ⟨c, u, v, hc, ex, ey⟩ := pow_inv h n
    have s := tn_sq h
    refine ⟨2 * c * (tn P).a, u * (tn P).a - v * (tn P).b - c * (tn P).m, u * (tn P).b + v * (tn P).a, gc_mul_l (gc_mul_l (odd_m h) hc) (tn_gcx h), ?_, ?_⟩
    · show ((qn P).pow (n + 1)).x * (tn P).a - ((qn P).pow (n + 1)).y * (tn P).b = _
      rw [ex, ey]
      generalize (tn P).a = a at *
      generalize (tn P).b = b at *
      generalize (tn P).m = m at *
      grind
    · show ((qn P).pow (n + 1)).x * (tn P).b + ((qn P).pow (n + 1)).y * (tn P).a = _
      rw [ex, ey]
      generalize (tn P).a = a at *
      generalize (tn P).b = b at *
      generalize (tn P).m = m at *
      grind
theorem gc_powr {a m : Int} (h : gc a m = 1) {P : Pt} (e : P.r = m) : ∀ n, gc a (P.pow n).r = 1
  | 0 => by
    show gc a 1 = 1
    unfold gc
    rw [show (1 : Int).natAbs = 1 from rfl, Nat.gcd_one_right]; rfl
  | n + 1 => by
    show gc a ((P.pow n).r * P.r) = 1
    exact gc_mul_r (gc_powr h e n) (by rw [e]; exact h)
theorem pow_gc {P : Pt} (h : P.Ok) : ∀ n, gc ((qn P).pow n).x ((qn P).pow n).r = 1 ∧ gc ((qn P).pow n).y ((qn P).pow n).r = 1
  | 0 => by
    refine ⟨?_, ?_⟩
    · show gc 1 1 = 1; decide
    · show gc 0 1 = 1; decide
  | n + 1 => by
    obtain ⟨c, u, v, hc, ex, ey⟩ := pow_inv h n
    rw [ex, ey]
    exact ⟨gc_powr (m := (tn P).m) (by rw [gc_of]; exact gc_mul_l hc (tn_gcx h)) rfl _, gc_powr (m := (tn P).m) (by rw [gc_of]; exact gc_mul_l hc (tn_gcy h)) rfl _⟩
theorem red_one {n m : Int} (h : gc n m = 1) : red n m = (n, m) := by
  unfold red
  rw [h, Int.ediv_one, Int.ediv_one]
theorem tn_pow {P : Pt} (h : P.Ok) (n : Nat) : tn (P.pow n) = ⟨((qn P).pow n).x, ((qn P).pow n).y, ((qn P).pow n).r⟩ := by
  rw [← tn_sim (pow_ok (qn_ok h) n) (pow_ok h n) ((qn_sim h).pow n)]
  obtain ⟨g1, g2⟩ := pow_gc h n
  unfold tn
  rw [red_one g1, red_one g2]
/-- a power's parts are those of the product, as they stand -/
theorem tn_powers {P : Pt} (h : P.Ok) (i j : Nat) : (tn (P.pow (i + j))).a = (tn (P.pow i)).a * (tn (P.pow j)).a - (tn (P.pow i)).b * (tn (P.pow j)).b ∧ (tn (P.pow (i + j))).b = (tn (P.pow i)).a * (tn (P.pow j)).b + (tn (P.pow i)).b * (tn (P.pow j)).a ∧ (tn (P.pow (i + j))).m = (tn (P.pow i)).m * (tn (P.pow j)).m := by
  rw [tn_pow h, tn_pow h, tn_pow h, pow_add]
  exact ⟨rfl, rfl, rfl⟩
end Mt
set_option Elab.async false
set_option linter.all false
set_option maxRecDepth 100000
set_option maxHeartbeats 4000000
namespace My
open PySem PySem.Spec PyProof.Rows L2 Vd Mt
abbrev fr (n m : Int) : PyData := .tuple [.int n, .int m]
abbrev frp (p : Int × Int) : PyData := fr p.1 p.2
abbrev tnD (P : Pt) : PyData := .tuple [fr (tn P).a (tn P).m, fr (tn P).b (tn P).m]
/-- a point of a size -/
def PtB (n : Nat) (P : Pt) : Prop := P.Ok ∧ P.r.natAbs < 2 ^ n
def bd (n : Nat) (i : Int) : Prop := i.natAbs < 2 ^ n
theorem mul_bd {n : Nat} {i j : Int} (h : bd n i) (k : bd n j) (hn : n ≤ 60000000 := by decide) : CMulX i j := mulx_ok h k (by omega)
theorem bd_mul {n m : Nat} {i j : Int} (h : bd n i) (k : bd m j) : bd (n + m) (i * j) := wide_lt h k
theorem bd_mono {n m : Nat} {i : Int} (h : bd n i) (k : n ≤ m) : bd m i := Nat.lt_of_lt_of_le h (Nat.pow_le_pow_right (by decide) k)
theorem bd_le {n : Nat} {i j : Int} (h : i.natAbs ≤ j.natAbs) (k : bd n j) : bd n i := Nat.lt_of_le_of_lt h k
theorem PtB.bds {n : Nat} {P : Pt} (h : PtB n P) : bd n (tn P).a ∧ bd n (tn P).b ∧ bd n (tn P).m ∧ bd n P.x ∧ bd n P.y ∧ bd n P.r := by
  have l : (tn P).m.natAbs ≤ P.r.natAbs := by have := tn_le h.1; have := tn_pos h.1; omega
  have a := tn_abs h.1
  have b := pt_abs h.1
  exact ⟨bd_le (Nat.le_trans a.1 l) h.2, bd_le (Nat.le_trans a.2 l) h.2, bd_le l h.2, bd_le b.1 h.2, bd_le b.2 h.2, h.2⟩
theorem fdiv_ok {n : Nat} {i j : Int} (h : 0 < j) (k : bd n j) (hn : 0 < n ∧ n ≤ 9000 := by decide) : CDivW i j := wide_div h k hn.1 hn.2
/-- whether two ints are a fraction -/
def isF (n m : Int) : Bool := decide (0 < m) && decide (gc n m = 1)
theorem isF_red {n m : Int} (h : 0 < m) : isF (red n m).1 (red n m).2 = true := by
  unfold isF
  rw [decide_eq_true (red_pos h), decide_eq_true (red_gc h)]
  rfl
theorem pow_r (p : Pt) : ∀ n, (p.pow n).r = p.r ^ n
  | 0 => by
    show (1 : Int) = _
    rw [Int.pow_zero]
  | n + 1 => by
    show (p.pow n).r * p.r = _
    rw [pow_r p n, Int.pow_succ]
theorem pow_le {r : Int} (h : 1 ≤ r) {k n : Nat} (hk : k ≤ n) : r ^ k ≤ r ^ n := by
  obtain ⟨m, rfl⟩ := Nat.le.dest hk
  rw [Int.pow_add]
  have a : 0 < r ^ k := Int.pow_pos (by omega)
  have b : 0 < r ^ m := Int.pow_pos (by omega)
  have z := Int.mul_le_mul_of_nonneg_left (show 1 ≤ r ^ m by omega) (show 0 ≤ r ^ k by omega)
  rw [Int.mul_one] at z
  exact z
theorem pow_bd {p : Pt} (h : p.Ok) {k n B : Nat} (hk : k ≤ n) (hb : (p.pow n).r.natAbs < 2 ^ B) : PtB B (p.pow k) := by
  refine ⟨pow_ok h k, ?_⟩
  have a := (pow_ok h k).pos
  have c : (p.pow k).r ≤ (p.pow n).r := by
    rw [pow_r, pow_r]
    exact pow_le (by have := h.pos; omega) hk
  omega
theorem tn_one : tnD Pt.one = .tuple [fr 1 1, fr 0 1] := by
  have e : tn Pt.one = ⟨1, 0, 1⟩ := by simp [tn, red, gc, Pt.one]
  unfold tnD
  rw [e]
abbrev rt (x : Rat) : PyData := fr x.num x.den
abbrev pD (p : Rat × Rat) : PyData := .tuple [rt p.1, rt p.2]
theorem rt_bd {n : Nat} {x : Rat} (h : Rb n x) : bd n x.num ∧ bd n (x.den : Int) := ⟨h.1, by unfold bd; rw [Int.natAbs_natCast]; exact h.2⟩
theorem isF_rt (x : Rat) : isF x.num x.den = true := by
  have e := red_rv (n := x.num) (den0 x)
  rw [rv_self] at e
  have z := isF_red (n := x.num) (den0 x)
  rw [e] at z
  exact z
theorem tn_rt {p : Pt} (h : p.Ok) : tnD p = pD (cs p, sn p) := by
  have a := tn_cs h
  have b := tn_sn h
  have a1 : (tn p).a = (cs p).num := congrArg Prod.fst a
  have a2 : (tn p).m = ((cs p).den : Int) := congrArg Prod.snd a
  have b1 : (tn p).b = (sn p).num := congrArg Prod.fst b
  have b2 : (tn p).m = ((sn p).den : Int) := congrArg Prod.snd b
  show PyData.tuple [fr (tn p).a (tn p).m, fr (tn p).b (tn p).m] = PyData.tuple [fr (cs p).num (cs p).den, fr (sn p).num (sn p).den]
  rw [← a1, ← b1, ← a2, ← b2]
abbrev wD (k : Rat) (L : List (Rat × Rat)) : PyData := .tuple [rt k, .tuple (L.map pD)]
/-- a wave in the document's form -/
def Wv (L : List (Rat × Rat)) : Prop := L.length ≤ 8 ∧ ∀ I l, L = I ++ [l] → l ≠ (0, 0)
theorem all_true {α : Type} (L : List α) : ((L.map fun _ => true).all id) = true := by simp
theorem map_true (L : List (Rat × Rat)) : (L.map pD).mapIdx (fun _ _ => PyData.bool true) = (L.map fun _ => true).map PyData.bool := by
  apply List.ext_getElem
  · simp
  · intro i h1 h2
    simp
theorem eqv_pD {p : Rat × Rat} (h : p ≠ (0, 0)) : PyData.eqv (pD p) (.tuple [fr 0 1, fr 0 1]) = false := by
  show ((p.1.num == 0 && (((p.1.den : Int) == 1) && true)) && ((p.2.num == 0 && (((p.2.den : Int) == 1) && true)) && true)) = false
  cases e : ((p.1.num == 0 && (((p.1.den : Int) == 1) && true)) && ((p.2.num == 0 && (((p.2.den : Int) == 1) && true)) && true)) with
  | false => rfl
  | true =>
    exfalso
    simp only [Bool.and_true, Bool.and_eq_true, beq_iff_eq] at e
    apply h
    obtain ⟨⟨a, _⟩, ⟨b, _⟩⟩ := e
    have a0 : p.1 = 0 := Rat.num_eq_zero.mp a
    have b0 : p.2 = 0 := Rat.num_eq_zero.mp b
    exact Prod.ext a0 b0
theorem atI_last {I : List PyData} {d : PyData} : atI (I ++ [d]) (-1) = some d := by
  unfold atI
  have e : ixN (I ++ [d]).length (-1) = some I.length := by
    rw [List.length_append]
    show ixN (I.length + 1) (-1) = some I.length
    unfold ixN
    split
    · omega
    · simp
      omega
  rw [e]
  simp
theorem eqv_pD1 {p : Rat × Rat} : PyData.eqv (pD p) (.tuple [fr 0 1, fr 0 1]) = decide (p = (0, 0)) := by
  by_cases h : p = (0, 0)
  · subst h
    decide
  · rw [eqv_pD h, decide_eq_false h]
theorem cut_take {L : List PyData} {m : Nat} (h : m ≤ L.length) : Vd.cutD L none (some (m : Int)) = L.take m := by
  unfold Vd.cutD
  rw [HT.sIx_none, HT.sIx_nat, List.drop_zero, Nat.min_eq_left h, Nat.sub_zero]
theorem pr_at {L : List Pr} {j : Nat} (h : j < L.length) : atI (L.map pD) (j : Int) = some (pD (L.getD j (0, 0))) :=
  atI_nat (by rw [List.getElem?_map, List.getElem?_eq_getElem h, List.getD_eq_getElem?_getD, List.getElem?_eq_getElem h]; rfl)
theorem trim_map (L : List Pr) : Vd.cutD (L.map pD) none (some ((trimTo L L.length : Nat) : Int)) = (trimR L).map pD := by
  rw [cut_take (by rw [List.length_map]; exact trimTo_le L _)]
  unfold trimR
  rw [List.map_take]
/-- pairs of a size -/
def LsB (n : Nat) (L : List Pr) : Prop := L.length ≤ 100 ∧ ∀ pq ∈ L, Rb n pq.1 ∧ Rb n pq.2
theorem LsB.at {n : Nat} {L : List Pr} (h : LsB n L) (h0 : 0 < n) (i : Nat) : Rb n (L.getD i (0, 0)).1 ∧ Rb n (L.getD i (0, 0)).2 := by
  rw [List.getD_eq_getElem?_getD]
  cases e : L[i]? with
  | none => exact ⟨rb_zero h0, rb_zero h0⟩
  | some pq => exact h.2 pq (List.mem_of_getElem? e)
theorem mir_map (L : List Pr) : (L.map pD).mapIdx (fun i _ => pD ((L.getD i (0, 0)).1, -(L.getD i (0, 0)).2)) = (mir L).map pD := by
  apply List.ext_getElem
  · simp [mir]
  · intro i h1 h2
    have hi : i < L.length := by simpa using h1
    simp [mir, hi]
theorem gcd_step (a b : Nat) : Nat.gcd b (a % b) = Nat.gcd a b := by
  rw [Nat.gcd_comm a b, Nat.gcd_rec b a, Nat.gcd_comm]
def mkPt (p q : Int) : Pt := ⟨q * q - p * p, 2 * p * q, q * q + p * p⟩
theorem mkPt_ok {p q : Int} (h : p ≠ 0 ∨ q ≠ 0) : (mkPt p q).Ok := by
  have sq : ∀ i : Int, 0 ≤ i * i := fun i => by have := Int.natAbs_mul_self (a := i); omega
  have sp : ∀ i : Int, i ≠ 0 → 0 < i * i := fun i hi => by
    have a := sq i
    have b : i * i ≠ 0 := fun z => by rcases Int.mul_eq_zero.mp z with z | z <;> exact hi z
    omega
  refine ⟨?_, ?_⟩
  · show 0 < q * q + p * p
    have a := sq p
    have b := sq q
    rcases h with h | h
    · have := sp p h; omega
    · have := sp q h; omega
  · simp only [mkPt]
    grind
/-- a fraction of a size -/
def RtP (d : PyData) : Prop := ∃ x : Rat, d = rt x ∧ Rb 21 x
theorem rb_0 : Rb 21 0 := rb_zero (by decide)
theorem mk_bd {p q : Int} (hp : p.natAbs ≤ 1000) (hq : q.natAbs ≤ 1000) (h : p ≠ 0 ∨ q ≠ 0) : PtB 21 (mkPt p q) := by
  refine ⟨mkPt_ok h, ?_⟩
  show (q * q + p * p).natAbs < 2 ^ 21
  have a := Nat.mul_le_mul hp hp
  have b := Nat.mul_le_mul hq hq
  have c := Int.natAbs_mul_self (a := p)
  have d := Int.natAbs_mul_self (a := q)
  omega
theorem neg_rb {n : Nat} {x : Rat} (h : Rb n x) : Rb n (-x) := ⟨by show (-x.num).natAbs < 2 ^ n; rw [Int.natAbs_neg]; exact h.1, h.2⟩
theorem rt_neg (x : Rat) : fr (0 - x.num) x.den = rt (-x) := by
  rw [Int.zero_sub]
  rfl
theorem lay_prs : ∀ L : List Pr, PyData.canLayAll0 (L.map pD) = true
  | [] => rfl
  | a :: L => by
    rw [List.map_cons, PyData.canLayAll0, lay_prs L]
    rfl
theorem dep_prs : ∀ L : List Pr, PyData.depthAll (L.map pD) ≤ 2
  | [] => Nat.zero_le _
  | a :: L => by
    rw [List.map_cons, PyData.depthAll]
    have z := dep_prs L
    have y : (pD a).depth = 2 := rfl
    omega
theorem sh_prs (L : List Pr) : SeqAt.shaped (.tuple (L.map pD)) = true := by
  unfold SeqAt.shaped
  rw [PyData.canLay0, lay_prs, PyData.depth]
  have := dep_prs L
  rw [decide_eq_true (by omega)]
  rfl
theorem cut_map (ns : List Int) (lo hi : Option Int) : ∃ ms : List Int, cutV (ns.map V.int) lo hi = ms.map V.int ∧ ms.length ≤ ns.length :=
  ⟨(ns.drop (HT.sIx (ns.map V.int).length 0 lo)).take (HT.sIx (ns.map V.int).length (ns.map V.int).length hi - HT.sIx (ns.map V.int).length 0 lo), by unfold cutV; rw [← List.map_drop, ← List.map_take], by rw [List.length_take, List.length_drop]; omega⟩
theorem asg_int {te : TE} {i : Nat} {D : Ends} {σ : L2.St} {H : Hp} (h : ∀ Q : VK, (∀ z H1, Evl.Ex H H1 → Q (.int z) H1) → te σ H Q) (k : ∀ z H1, Evl.Ex H H1 → D.nx (σ.set i (some (.int z))) H1) : tAsg te (gName i) D σ H := h _ k
theorem ret_lst_int {te : TE} {tr : TA} {σ : L2.St} {H : Hp} {D : Ends} (h : ∀ Q : VK, (∀ z, Q (.int z) H) → te σ H Q) (k : ∀ z : Int, tr σ H fun xs H2 => (V.int z :: xs).length ≤ sizeLine ∧ ∀ p, H2 p = none → D.rt (.ref p) (upd H2 p (.lst (V.int z :: xs)))) : tRet (tLst (tCons te tr)) D σ H := h _ k
def spWell (K : PySem.W.Frag) : Sp := fun vs H Q _ => ∃ (a : Addr) (ns : List Int) (lap : Int), vs = [.ref a, .int lap] ∧ SqL K H a (ns.map V.int) ∧ ns.length ≤ 63 ∧ 0 ≤ lap ∧ lap ≤ 100 ∧ ∀ p H', Evl.Ex H H' → H p = none → WOk H' p → Q (.ref p) H'
def spLaw (K : PySem.W.Frag) : Sp := fun vs H Q _ => ∃ (a : Addr) (ns : List Int), vs = [.ref a] ∧ ns.length ≤ 63 ∧ SqL K H a (ns.map V.int) ∧ Tq K H ∧ ∀ H', Q (.bl true) H'
/-- one of some ints -/
theorem picks_int {L : List Int} {Q : Int → Prop} [DecidablePred Q] (h : L.all (fun i => decide (Q i)) = true) : ∀ d, d ∈ L.map PyData.int → IntP Q d := fun d hd => by
  obtain ⟨i, hi, rfl⟩ := List.mem_map.mp hd
  exact ⟨i, rfl, of_decide_eq_true (List.all_eq_true.mp h i hi)⟩
section
variable {K : PySem.W.Frag} {w : WA} {ρ : Rho} {te ta tb : TE} {tx ty : TA} {R : Rt} {N : Rho → Prop} {ts tv : TS}
theorem ev_neF {a b : Str} (h : EvD K w te ρ (Is (.bool (!decide (a = b))))) (e : a = b) : EvD K w te ρ (Is (.bool false)) := ev_is h (by rw [decide_eq_true e]; rfl)
theorem ev_eqT {a b : Str} (h : EvD K w te ρ (Is (.bool (decide (a = b))))) (e : a = b) : EvD K w te ρ (Is (.bool true)) := ev_is h (by rw [decide_eq_true e])
/-- if False: .. -/
theorem run_ifN {tt : TT} (h : EvT K w tt ρ (Is false)) (k : Run K w tv ρ R N) : Run K w (tSeq (tIfS tt ts tNext) tv) ρ R N := run_ifsD h (fun z => nomatch z) fun _ => run_skip k
theorem ea1 {S : PyData → Prop} (h : EvD K w te ρ S) : EvA K w (tCons te tNil) ρ (fun l => ∃ d, l = [d] ∧ S d) := EvA.mono (ea_consP h ea_nil) fun l ⟨d, ds, e, s, e2⟩ => ⟨d, by rw [e, show ds = [] from e2], s⟩
theorem ea2 {S S2 : PyData → Prop} (h : EvD K w te ρ S) (h2 : EvD K w ta ρ S2) : EvA K w (tCons te (tCons ta tNil)) ρ (fun l => ∃ d e, l = [d, e] ∧ S d ∧ S2 e) := EvA.mono (ea_consP h (ea1 h2)) fun l ⟨d, ds, e, s, e1, e2, e3⟩ => ⟨d, e1, by rw [e, e2], s, e3⟩
theorem ea3 {S S2 S3 : PyData → Prop} (h : EvD K w te ρ S) (h2 : EvD K w ta ρ S2) (h3 : EvD K w tb ρ S3) : EvA K w (tCons te (tCons ta (tCons tb tNil))) ρ (fun l => ∃ d e f, l = [d, e, f] ∧ S d ∧ S2 e ∧ S3 f) := EvA.mono (ea_consP h (ea2 h2 h3)) fun l ⟨d, ds, e, s, e1, e2, e3, s2, s3⟩ => ⟨d, e1, e2, by rw [e, e3], s, s2, s3⟩
theorem PtB.mono {n m : Nat} {p : Pt} (h : PtB n p) (k : n ≤ m) : PtB m p := ⟨h.1, bd_mono h.2 k⟩
theorem PtB.mul {n m : Nat} {p q : Pt} (h : PtB n p) (k : PtB m q) : PtB (n + m) (p.mul q) := ⟨mul_ok h.1 k.1, bd_mul h.2 k.2⟩
theorem PtB.one {n : Nat} (h : 0 < n) : PtB n Pt.one := ⟨one_ok, by show 1 < 2 ^ n; exact Nat.one_lt_two_pow (by omega)⟩
theorem PtB.conj {n : Nat} {p : Pt} (h : PtB n p) : PtB n p.conj := ⟨conj_ok h.1, h.2⟩
end
end My
set_option Elab.async false
set_option linter.all false
set_option maxRecDepth 100000
set_option maxHeartbeats 4000000
/-! itertools.combinations(a list or a tuple, r), at the library's level -/
namespace Cb
open PySem PySem.Spec
open Sem (wp)
theorem mro_cb : mroOf (.type "itertools.combinations") = pure [.type "itertools.combinations", .type "object"] := by rw [mroOf_type]; kernel_rfl
theorem lookup_cb : typeLookup (.type "itertools.combinations") "__new__" = pure (some (.builtin "itertools.combinations.__new__")) := by rw [typeLookup_type, builtinLookup_eq_fast]; kernel_rfl
theorem init_cb : Slot "itertools.combinations" "__init__" "object.__init__" := .of (owner := "object") (n := "__init__") (by rw [typeLookup_type, builtinLookup_eq_fast]; kernel_rfl) (by decide +kernel) (by decide +kernel) (by decide +kernel) (by first | exact .inl (by decide +kernel) | exact .inr (by decide +kernel)) (by rw [isSubtype_type]; kernel_rfl)
theorem sub_cb : isSubtype (.type "itertools.combinations") (.type "itertools.combinations") = pure true := by rw [isSubtype_type]; kernel_rfl
theorem called_cb : TypeCalled "itertools.combinations" "itertools.combinations.__new__" "object.__init__" := ⟨by decide +kernel, by decide +kernel, ⟨_, _, mro_cb⟩, madeBy_type mro_cb lookup_cb (by decide +kernel), by decide +kernel, sub_cb, init_cb⟩
theorem tcall_cb (a b : Value) : checkTypeCall "itertools.combinations" ⟨[a, b], []⟩ = pure () := by kernel_rfl
theorem ncall_cb (a b : Value) : checkBuiltinCall "itertools.combinations.__new__" ⟨[.type "itertools.combinations", a, b], []⟩ = pure () := by kernel_rfl
theorem entry_new : entryFor table "itertools.combinations.__new__" = some Builtin.«itertools.combinations.__new__» := entryFor_of_tree (by kernel_rfl)
theorem iter_cb : Slot "itertools.combinations" "__iter__" "itertools.combinations.__iter__" := .of (owner := "itertools.combinations") (n := "__iter__") (by rw [typeLookup_type, builtinLookup_eq_fast]; kernel_rfl) (by decide +kernel) (by decide +kernel) (by decide +kernel) (by first | exact .inl (by decide +kernel) | exact .inr (by decide +kernel)) sub_cb
theorem next_cb : Slot "itertools.combinations" "__next__" "itertools.combinations.__next__" := .of (owner := "itertools.combinations") (n := "__next__") (by rw [typeLookup_type, builtinLookup_eq_fast]; kernel_rfl) (by decide +kernel) (by decide +kernel) (by decide +kernel) (by first | exact .inl (by decide +kernel) | exact .inr (by decide +kernel)) sub_cb
theorem entry_iter : entryFor table "itertools.combinations.__iter__" = some Builtin.«dict_keyiterator.__iter__» := entryFor_alias (id' := "dict_keyiterator.__iter__") (by kernel_rfl) (by first | rfl | decide +kernel | (unfold String.splitOn; simp +decide [String.splitOnAux])) (by decide +kernel) (by kernel_rfl)
theorem entry_next : entryFor table "itertools.combinations.__next__" = some Builtin.«itertools.combinations.__next__» := entryFor_of_tree (by kernel_rfl)
theorem owner_cb : Manifest.owners.lookup (String.ofList ['s', 'n', 'o', 'i', 't', 'a', 'n', 'i', 'b', 'm', 'o', 'c', '.', 's', 'l', 'o', 'o', 't', 'r', 'e', 't', 'i'].reverse) = some Manifest.sig_itertools_combinations := by kernel_rfl
theorem args_iter (a : Value) : argsOk "itertools.combinations.__iter__" ⟨[a], []⟩ := by
  unfold argsOk; rw [signature?_of (id := "itertools.combinations.__iter__") (n := ['_', '_', 'r', 'e', 't', 'i', '_', '_']) (o := ['s', 'n', 'o', 'i', 't', 'a', 'n', 'i', 'b', 'm', 'o', 'c', '.', 's', 'l', 'o', 'o', 't', 'r', 'e', 't', 'i']) (by kernel_rfl) owner_cb]; kernel_rfl
theorem args_next (a : Value) : argsOk "itertools.combinations.__next__" ⟨[a], []⟩ := by
  unfold argsOk; rw [signature?_of (id := "itertools.combinations.__next__") (n := ['_', '_', 't', 'x', 'e', 'n', '_', '_']) (o := ['s', 'n', 'o', 'i', 't', 'a', 'n', 'i', 'b', 'm', 'o', 'c', '.', 's', 'l', 'o', 'o', 't', 'r', 'e', 't', 'i']) (by kernel_rfl) owner_cb]; kernel_rfl
theorem noDict_cb : typeHasDict (.type "itertools.combinations") = false := by decide +kernel
/-- its cells: the pool, where it stands, what it handed out last, the places -/
abbrev IsCb (h : Heap) (it : Addr) (pool : Addr) (st : Int) (last : Value) (ks : List Nat) : Prop :=
  h.get? it = some { cls := .type "itertools.combinations", dict := none, data := .fields (.ref pool :: rawInt st :: last :: ks.map fun k : Nat => rawInt (k : Int)).toArray, slots := #[] }
end Cb
set_option Elab.async false
set_option linter.all false
set_option maxRecDepth 100000
set_option maxHeartbeats 4000000
namespace Cb
open PySem PySem.Spec
open Sem (wp)
/-- what stands at p is a tuple of these -/
def IsPool (h : Heap) (p : Addr) (items : List Value) : Prop := ∃ op, h.get? p = some op ∧ op.cls = .type "tuple" ∧ ∃ m, op.data = .seq items.toArray m
theorem meets_new {a : Addr} {items : List Value} (r : Nat) (t : Tok) (h1 : r < 1000) :
    Meets (Builtin.«itertools.combinations.__new__» ⟨[.type "itertools.combinations", .ref a, .int (r : Int) t], []⟩)
      (fun _ R s => s.heap.IsList a items.toArray ∧ items.length ≤ sizeLine ∧ ∀ h' p e, IsCb h' e p (if r > items.length then 2 else 0) .none (List.range r) → IsPool h' p items → p ≠ e → s.heap.objs.size ≤ p → s.heap.objs.size ≤ e → (∀ b o, s.heap.get? b = some o → h'.get? b = some o) → R (.ok (.ret (.ref e))) { s with heap := h' }) :=
  .of_wp fun prog w A R s h => by
    obtain ⟨ho, hz, h⟩ := h
    have e0 : ("itertools." ++ "combinations" : String) = "itertools.combinations" := by decide +kernel
    have hsub : isSubtype (.type "itertools.combinations") (.type ("itertools." ++ "combinations")) = pure true := by rw [e0]; exact sub_cb
    have hr : ¬ ((r : Nat) : Int) < 0 := by omega
    have hm : Builtin.Itertools.itTooMany (r : Int) = false := decide_eq_false (by omega)
    have hdc := noDict_cb
    have hn : ¬ ((decide ((r : Int) < -(2 ^ 63 : Int)) || decide ((r : Int) ≥ (2 ^ 63 : Int))) = true) := by
      have a : decide ((r : Int) < -(2 ^ 63 : Int)) = false := decide_eq_false (by omega)
      have b : decide ((r : Int) ≥ (2 ^ 63 : Int)) = false := decide_eq_false (by omega)
      rw [a, b]
      decide
    have q1 : ∀ {A' : Around} {E : Value → Shared → Prop} {Q : List Value → Shared → Prop}, (∀ h', s.heap.objs.size ≤ h'.objs.size ∧ (∀ b o', s.heap.get? b = some o' → h'.get? b = some o') → Q items { s with heap := h' }) → wpAny (model prog w) A' (collect (.ref a)) Q E s :=
      fun q => PyProof.Rows.collect_list ho (q _ ⟨by rw [Heap.size_update, Heap.size_push]; exact Nat.le_succ _, fun b o' hb => (Heap.get?_update_other _ _ (Nat.ne_of_gt (Heap.lt_size hb))).trans (Heap.get?_push_of_some _ hb)⟩) hz
    repeat (first
      | (with_reducible refine q1 fun h' hk => ?_)
      | wp_step
      | simp only [List.head?_cons, Option.some_or, List.getElem?_cons_succ, List.getElem?_cons_zero, List.length_cons, List.length_nil, List.forIn_nil]
      | (rw [if_neg hr])
      | (rw [hm])
      | (refine wpAny_ite_false (decide_eq_false hn) ?_))
    have sz : ¬ ([Value.ref h'.objs.size, rawInt (if (r : Int).toNat > items.length then 2 else 0), Value.none] ++ List.map (fun i : Nat => rawInt (i : Int)) (List.range (r : Int).toNat)).toArray.size > sizeLine + 2 := by
      rw [List.size_toArray, List.length_append, List.length_map, List.length_range, sizeLine_eq]
      show ¬ (3 + (r : Int).toNat > _)
      omega
    rw [if_neg sz]
    repeat wp_step
    rw [Int.toNat_natCast]
    have e1 : (h'.push { cls := Value.type "tuple", data := Data.seq items.toArray }).objs.size = h'.objs.size + 1 := Heap.size_push ..
    have kp : ∀ b o, s.heap.get? b = some o → ((h'.push { cls := Value.type "tuple", data := Data.seq items.toArray }).push { cls := Value.type "itertools.combinations", data := Data.fields ([Value.ref h'.objs.size, rawInt (if r > items.length then 2 else 0), Value.none] ++ List.map (fun i : Nat => rawInt (i : Int)) (List.range r)).toArray }).get? b = some o := fun b o hb => Heap.get?_push_of_some _ (Heap.get?_push_of_some _ (hk.2 b o hb))
    refine ⟨_, rfl, h _ h'.objs.size _ (Heap.get?_push_size _ rfl) ⟨_, Heap.get?_push_of_some _ (Heap.get?_push_size _ rfl), rfl, _, rfl⟩ ?_ hk.1 ?_ kp⟩
    · rw [e1]; exact Nat.ne_of_lt (Nat.lt_succ_self _)
    · rw [e1]; exact Nat.le_succ_of_le hk.1
section
variable {prog : Program} {w : World} {A : Around} {E : Value → Shared → Prop} {s : Shared}
theorem call_cb {a : Addr} {items : List Value} {r : Nat} {t : Tok} {Q : Value → Shared → Prop} (h1 : r < 1000) (hl : s.heap.IsList a items.toArray) (hz : items.length ≤ sizeLine)
    (h : ∀ h' p e, IsCb h' e p (if r > items.length then 2 else 0) .none (List.range r) → IsPool h' p items → p ≠ e → s.heap.objs.size ≤ p → s.heap.objs.size ≤ e → (∀ b o, s.heap.get? b = some o → h'.get? b = some o) → Q (.ref e) { s with heap := h' }) :
    wpAny (model prog w) A (call (.type "itertools.combinations") [.ref a, .int (r : Int) t]) Q E s := by
  refine callType_new called_cb (by decide +kernel) (tcall_cb _ _) (ncall_cb _ _) (fun obj => F.args_object_init_3 obj _ _) entry_new (meets_new (items := items) r t h1) ?_
  exact ⟨hl, hz, fun h' p e hc hp hne hsp hse hk => ⟨⟨_, hc, rfl⟩, h h' p e hc hp hne hsp hse hk⟩⟩
theorem iter_cb_ {it p : Addr} {st : Int} {last : Value} {ks : List Nat} {Q : Value → Shared → Prop} (hit : IsCb s.heap it p st last ks) (h : Q (.ref it) s) : wpAny (model prog w) A (pyIter (.ref it)) Q E s := by
  have hT : s.TypeIs (.ref it) "itertools.combinations" := ⟨_, hit, rfl⟩
  refine wpAny_pyIter_slot hT iter_cb (wpAny_call_entry iter_cb hT entry_iter (wpAny_pure ⟨_, rfl, "itertools.combinations", _, hT, next_cb.lookup, h⟩) (args_iter _))
end
end Cb
set_option Elab.async false
set_option linter.all false
set_option maxRecDepth 100000
set_option maxHeartbeats 4000000
namespace Cb
open PySem PySem.Spec
open Sem (wp)
/-- what stands at the places -/
abbrev at_ (items : List Value) (ks : List Nat) : List Value := ks.map fun i => items.toArray.getD i Value.none
section
variable {prog : Program} {w : World} {A : Around} {E : Value → Shared → Prop} {s : Shared}
theorem next_fresh {it p : Addr} {items : List Value} {ks : List Nat} {Q : Option Value → Shared → Prop} (hit : IsCb s.heap it p 0 .none ks) (hp : IsPool s.heap p items) (hne : p ≠ it) (hk : ks.length ≤ 1000)
    (hQ : ∀ h', IsCb h' it p 1 (.ref s.heap.objs.size) ks → IsPool h' p items → IsPool h' s.heap.objs.size (at_ items ks) → (∀ b o, b ≠ it → s.heap.get? b = some o → h'.get? b = some o) → Q (some (.ref s.heap.objs.size)) { s with heap := h' }) :
    wpAny (model prog w) A (pyNext (.ref it)) Q E s := by
  have hT : s.TypeIs (.ref it) "itertools.combinations" := ⟨_, hit, rfl⟩
  unfold pyNext
  refine wpAny_bind (wpAny_attempt (wpAny_callSpecial?_slot (name := Str.ofString "__next__") hT next_cb (wpAny_call_entry next_cb hT entry_next ?_ (args_next _))))
  show wpAny _ _ (Builtin.«itertools.combinations.__next__» ⟨[.ref it], []⟩) _ _ s
  obtain ⟨⟨cls, dd, data, sl⟩, ho, hc, m, hd⟩ := id hp
  simp only at hc hd
  subst hc hd
  repeat wp_step
  simp only [List.drop_succ_cons, List.drop_zero, List.map_map, Function.comp_def, rawInt, Int.toNat_natCast, List.map_id']
  have sz : ¬ (List.map (fun i => items.toArray.getD i Value.none) ks).toArray.size > sizeLine := by
    rw [List.size_toArray, List.length_map, sizeLine_eq]
    omega
  repeat (first | wp_step | rw [if_neg sz])
  rw [Heap.size_update]
  have h1 := Heap.get?_update_self (Obj.mapFields fun x => x.setIfInBounds 1 (Value.int 1 0)) hit rfl
  have pn : ∀ b o, b ≠ it → s.heap.get? b = some o → ((s.heap.update it (Obj.mapFields fun x => x.setIfInBounds 1 (Value.int 1 0))).push { cls := Value.type "tuple", data := Data.seq (List.map (fun i => items.toArray.getD i Value.none) ks).toArray }).get? b = some o := fun b o hb e => Heap.get?_push_of_some _ ((Heap.get?_update_other _ _ hb.symm).trans e)
  have hlt : it < s.heap.objs.size := Heap.lt_size hit
  have tn : ((s.heap.update it (Obj.mapFields fun x => x.setIfInBounds 1 (Value.int 1 0))).push { cls := Value.type "tuple", data := Data.seq (List.map (fun i => items.toArray.getD i Value.none) ks).toArray }).get? s.heap.objs.size = some { cls := Value.type "tuple", data := Data.seq (List.map (fun i => items.toArray.getD i Value.none) ks).toArray } := by
    have z := Heap.get?_push_size (s.heap.update it (Obj.mapFields fun x => x.setIfInBounds 1 (Value.int 1 0))) (o := { cls := Value.type "tuple", data := Data.seq (List.map (fun i => items.toArray.getD i Value.none) ks).toArray }) rfl
    rw [Heap.size_update] at z
    exact z
  refine ⟨_, rfl, wpAny_pure (hQ _ ?_ ⟨_, (Heap.get?_update_other _ _ hne.symm).trans (pn p _ hne ho), rfl, _, rfl⟩ ⟨_, (Heap.get?_update_other _ _ (Nat.ne_of_lt hlt)).trans tn, rfl, _, rfl⟩ fun b o hb e => (Heap.get?_update_other _ _ hb.symm).trans (pn b o hb e))⟩
  exact (Heap.get?_update_self _ (Heap.get?_push_of_some _ h1) rfl).trans (by simp [Obj.mapFields, rawInt])
end
end Cb
set_option Elab.async false
set_option linter.all false
set_option maxRecDepth 100000
set_option maxHeartbeats 4000000
namespace Cb
open PySem PySem.Spec
open Sem (wp)
theorem key2 (f : Nat → Bool) (g : Nat → List Nat) : (match ([1, 0] : List Nat).find? f with | none => none | some i => some (g i)) = (if f 1 = true then some (g 1) else if f 0 = true then some (g 0) else none : Option (List Nat)) := by
  rw [List.find?_cons]
  cases h1 : f 1 with
  | true => rfl
  | false =>
    rw [List.find?_cons]
    cases h0 : f 0 with
    | true => rfl
    | false =>
      rfl
def nx2 (n i j : Nat) : Option (List Nat) := if j + 1 < n then some [i, j + 1] else if i + 2 < n then some [i + 1, i + 2] else none
theorem key3 (f : Nat → Bool) (g : Nat → List Nat) : (match ([2, 1, 0] : List Nat).find? f with | none => none | some i => some (g i)) = (if f 2 = true then some (g 2) else if f 1 = true then some (g 1) else if f 0 = true then some (g 0) else none : Option (List Nat)) := by
  rw [List.find?_cons]
  cases h2 : f 2 with
  | true => rfl
  | false =>
    rw [List.find?_cons]
    cases h1 : f 1 with
    | true => rfl
    | false =>
      rw [List.find?_cons]
      cases h0 : f 0 with
      | true => rfl
      | false =>
        rfl
def nx3 (n i j k : Nat) : Option (List Nat) := if k + 1 < n then some [i, j, k + 1] else if j + 2 < n then some [i, j + 1, j + 2] else if i + 3 < n then some [i + 1, i + 2, i + 3] else none
section
variable {prog : Program} {w : World} {A : Around} {E : Value → Shared → Prop} {s : Shared}
theorem next_go2 {it p : Addr} {last : Value} {items : List Value} {i j : Nat} {ks : List Nat} {Q : Option Value → Shared → Prop} (hit : IsCb s.heap it p 1 last [i, j]) (hp : IsPool s.heap p items) (hne : p ≠ it) (hij : i < j ∧ j < items.length) (hx : nx2 items.length i j = some ks)
    (hQ : ∀ h', IsCb h' it p 1 (.ref s.heap.objs.size) ks → IsPool h' p items → IsPool h' s.heap.objs.size (at_ items ks) → (∀ b o, b ≠ it → s.heap.get? b = some o → h'.get? b = some o) → Q (some (.ref s.heap.objs.size)) { s with heap := h' }) :
    wpAny (model prog w) A (pyNext (.ref it)) Q E s := by
  have hT : s.TypeIs (.ref it) "itertools.combinations" := ⟨_, hit, rfl⟩
  unfold pyNext
  refine wpAny_bind (wpAny_attempt (wpAny_callSpecial?_slot (name := Str.ofString "__next__") hT next_cb (wpAny_call_entry next_cb hT entry_next ?_ (args_next _))))
  show wpAny _ _ (Builtin.«itertools.combinations.__next__» ⟨[.ref it], []⟩) _ _ s
  obtain ⟨⟨cls, dd, data, sl⟩, ho, hc, m, hd⟩ := id hp
  simp only at hc hd
  subst hc hd
  repeat wp_step
  simp only [List.drop_succ_cons, List.drop_zero, List.map_map, Function.comp_def, rawInt, Int.toNat_natCast, List.map_id']
  have sz : items.toArray.size = items.length := List.size_toArray ..
  have lk : ks.length ≤ 1000 := by
    unfold nx2 at hx
    split at hx
    · cases hx; exact Nat.le_of_ble_eq_true rfl
    · split at hx
      · cases hx; exact Nat.le_of_ble_eq_true rfl
      · cases hx
  split
  · rename_i next heq
    have e := (key2 _ _).symm.trans heq
    have en : next = ks := by
      rw [sz] at e
      unfold nx2 at hx
      by_cases c0 : j + 1 < items.length
      · rw [if_pos c0] at hx
        rw [if_pos (by simp; omega)] at e
        rw [← Option.some.inj hx, ← Option.some.inj e]
        rfl
      · rw [if_neg c0] at hx
        rw [if_neg (by simp; omega)] at e
        by_cases c1 : i + 2 < items.length
        · rw [if_pos c1] at hx
          rw [if_pos (by simp; omega)] at e
          rw [← Option.some.inj hx, ← Option.some.inj e]
          rfl
        · rw [if_neg c1] at hx
          cases hx
    clear heq e
    subst en
    repeat wp_step
    have ep : (Obj.mapFields (fun fs : Array Value => fs.extract 0 3 ++ (List.map (fun n : Nat => rawInt (n : Int)) next).toArray) { cls := Value.type "itertools.combinations", data := Data.fields (Value.ref p :: rawInt 1 :: last :: List.map (fun k : Nat => rawInt (k : Int)) [i, j]).toArray }).data.pastItsLine = none := pastItsLine_fields (by
      have z : ((Value.ref p :: rawInt 1 :: last :: List.map (fun k : Nat => rawInt (k : Int)) [i, j]).toArray.extract 0 3 ++ (List.map (fun n : Nat => rawInt (n : Int)) next).toArray).size ≤ 1003 := by simp; omega
      exact Nat.le_trans z (by rw [sizeLine_eq]; decide))
    rw [ep]
    refine wpAny_pure ?_
    simp only [List.getElem_toArray, List.getElem_cons_zero]
    have sz2 : ¬ (List.map (fun i => items.toArray.getD i Value.none) next).toArray.size > sizeLine := by
      rw [List.size_toArray, List.length_map, sizeLine_eq]
      omega
    repeat (first | wp_step | rw [if_neg sz2])
    have e2 : ((fun fs : Array Value => fs.extract 0 3 ++ (List.map (fun n : Nat => rawInt (n : Int)) next).toArray) (Value.ref p :: rawInt 1 :: last :: List.map (fun k : Nat => rawInt (k : Int)) [i, j]).toArray)[2]? = some last := by simp
    rw [e2]
    refine wpAny_pure ?_
    repeat wp_step
    rw [Heap.size_update]
    have h1 := Heap.get?_update_self (Obj.mapFields fun fs : Array Value => fs.extract 0 3 ++ (List.map (fun n : Nat => rawInt (n : Int)) next).toArray) hit rfl
    have pn : ∀ b o, b ≠ it → s.heap.get? b = some o → ((s.heap.update it (Obj.mapFields fun fs : Array Value => fs.extract 0 3 ++ (List.map (fun n : Nat => rawInt (n : Int)) next).toArray)).push { cls := Value.type "tuple", data := Data.seq (List.map (fun i => items.toArray.getD i Value.none) next).toArray }).get? b = some o := fun b o hb e => Heap.get?_push_of_some _ ((Heap.get?_update_other _ _ hb.symm).trans e)
    have hlt : it < s.heap.objs.size := Heap.lt_size hit
    have tn : ((s.heap.update it (Obj.mapFields fun fs : Array Value => fs.extract 0 3 ++ (List.map (fun n : Nat => rawInt (n : Int)) next).toArray)).push { cls := Value.type "tuple", data := Data.seq (List.map (fun i => items.toArray.getD i Value.none) next).toArray }).get? s.heap.objs.size = some { cls := Value.type "tuple", data := Data.seq (List.map (fun i => items.toArray.getD i Value.none) next).toArray } := by
      have z := Heap.get?_push_size (s.heap.update it (Obj.mapFields fun fs : Array Value => fs.extract 0 3 ++ (List.map (fun n : Nat => rawInt (n : Int)) next).toArray)) (o := { cls := Value.type "tuple", data := Data.seq (List.map (fun i => items.toArray.getD i Value.none) next).toArray }) rfl
      rw [Heap.size_update] at z
      exact z
    refine ⟨_, rfl, wpAny_pure (hQ _ ?_ ⟨_, (Heap.get?_update_other _ _ hne.symm).trans (pn p _ hne ho), rfl, _, rfl⟩ ⟨_, (Heap.get?_update_other _ _ (Nat.ne_of_lt hlt)).trans tn, rfl, _, rfl⟩ fun b o hb e => (Heap.get?_update_other _ _ hb.symm).trans (pn b o hb e))⟩
    exact (Heap.get?_update_self _ (Heap.get?_push_of_some _ h1) rfl).trans (by simp [Obj.mapFields, rawInt])
  · rename_i heq
    have e := (key2 _ _).symm.trans heq
    exfalso
    rw [sz] at e
    unfold nx2 at hx
    by_cases c0 : j + 1 < items.length
    · rw [if_pos (by simp; omega)] at e
      cases e
    · rw [if_neg c0] at hx
      rw [if_neg (by simp; omega)] at e
      by_cases c1 : i + 2 < items.length
      · rw [if_pos (by simp; omega)] at e
        cases e
      · rw [if_neg c1] at hx
        cases hx
theorem next_end2 {it p : Addr} {last : Value} {items : List Value} {i j : Nat} {Q : Option Value → Shared → Prop} (hh : A.handled = none) (hit : IsCb s.heap it p 1 last [i, j]) (hp : IsPool s.heap p items) (hne : p ≠ it) (hij : i < j ∧ j < items.length) (hx : nx2 items.length i j = none)
    (hQ : ∀ h', Heap.ExtBut it s.heap h' → Q none { s with heap := h' }) :
    wpAny (model prog w) A (pyNext (.ref it)) Q E s := by
  have hT : s.TypeIs (.ref it) "itertools.combinations" := ⟨_, hit, rfl⟩
  unfold pyNext
  refine wpAny_bind (wpAny_attempt (wpAny_callSpecial?_slot (name := Str.ofString "__next__") hT next_cb (wpAny_call_entry next_cb hT entry_next ?_ (args_next _))))
  show wpAny _ _ (Builtin.«itertools.combinations.__next__» ⟨[.ref it], []⟩) _ _ s
  obtain ⟨⟨cls, dd, data, sl⟩, ho, hc, m, hd⟩ := id hp
  simp only at hc hd
  subst hc hd
  repeat wp_step
  simp only [List.drop_succ_cons, List.drop_zero, List.map_map, Function.comp_def, rawInt, Int.toNat_natCast, List.map_id']
  have sz : items.toArray.size = items.length := List.size_toArray ..
  have hh1 : A.in1.handled = none := hh
  split
  · rename_i next heq
    have e := (key2 _ _).symm.trans heq
    exfalso
    rw [sz] at e
    unfold nx2 at hx
    by_cases c0 : j + 1 < items.length
    · rw [if_pos c0] at hx
      cases hx
    · rw [if_neg c0] at hx
      rw [if_neg (by simp; omega)] at e
      by_cases c1 : i + 2 < items.length
      · rw [if_pos c1] at hx
        cases hx
      · rw [if_neg c1] at hx
        rw [if_neg (by simp; omega)] at e
        cases e
  · rename_i heq
    clear heq
    repeat wp_step
    simp only [raiseNew]
    refine wpAny_bind (wpAny_handled ?_)
    rw [hh1]
    refine wpAny_bind (wpAny_pure (wpAny_throw ?_))
    refine wpAny_bind (wpAny_isInstance (T := "StopIteration") (b := true) ?_ isSubtype_stop (wpAny_pure (hQ _ ?_)))
    · exact ⟨_, Heap.get?_push_size _ rfl, rfl⟩
    exact (Heap.ExtBut.push (Heap.ExtBut.push (Heap.SameBut.extBut (Heap.SameBut.update ..)) _) _)
theorem next_go3 {it p : Addr} {last : Value} {items : List Value} {i j k : Nat} {ks : List Nat} {Q : Option Value → Shared → Prop} (hit : IsCb s.heap it p 1 last [i, j, k]) (hp : IsPool s.heap p items) (hne : p ≠ it) (hij : i < j ∧ j < k ∧ k < items.length) (hx : nx3 items.length i j k = some ks)
    (hQ : ∀ h', IsCb h' it p 1 (.ref s.heap.objs.size) ks → IsPool h' p items → IsPool h' s.heap.objs.size (at_ items ks) → (∀ b o, b ≠ it → s.heap.get? b = some o → h'.get? b = some o) → Q (some (.ref s.heap.objs.size)) { s with heap := h' }) :
    wpAny (model prog w) A (pyNext (.ref it)) Q E s := by
  have hT : s.TypeIs (.ref it) "itertools.combinations" := ⟨_, hit, rfl⟩
  unfold pyNext
  refine wpAny_bind (wpAny_attempt (wpAny_callSpecial?_slot (name := Str.ofString "__next__") hT next_cb (wpAny_call_entry next_cb hT entry_next ?_ (args_next _))))
  show wpAny _ _ (Builtin.«itertools.combinations.__next__» ⟨[.ref it], []⟩) _ _ s
  obtain ⟨⟨cls, dd, data, sl⟩, ho, hc, m, hd⟩ := id hp
  simp only at hc hd
  subst hc hd
  repeat wp_step
  simp only [List.drop_succ_cons, List.drop_zero, List.map_map, Function.comp_def, rawInt, Int.toNat_natCast, List.map_id']
  have sz : items.toArray.size = items.length := List.size_toArray ..
  have lk : ks.length ≤ 1000 := by
    unfold nx3 at hx
    split at hx
    · cases hx; exact Nat.le_of_ble_eq_true rfl
    · split at hx
      · cases hx; exact Nat.le_of_ble_eq_true rfl
      · split at hx
        · cases hx; exact Nat.le_of_ble_eq_true rfl
        · cases hx
  split
  · rename_i next heq
    have e := (key3 _ _).symm.trans heq
    have en : next = ks := by
      rw [sz] at e
      unfold nx3 at hx
      by_cases c0 : k + 1 < items.length
      · rw [if_pos c0] at hx
        rw [if_pos (by simp; omega)] at e
        rw [← Option.some.inj hx, ← Option.some.inj e]
        rfl
      · rw [if_neg c0] at hx
        rw [if_neg (by simp; omega)] at e
        by_cases c1 : j + 2 < items.length
        · rw [if_pos c1] at hx
          rw [if_pos (by simp; omega)] at e
          rw [← Option.some.inj hx, ← Option.some.inj e]
          rfl
        · rw [if_neg c1] at hx
          rw [if_neg (by simp; omega)] at e
          by_cases c2 : i + 3 < items.length
          · rw [if_pos c2] at hx
            rw [if_pos (by simp; omega)] at e
            rw [← Option.some.inj hx, ← Option.some.inj e]
            rfl
          · rw [if_neg c2] at hx
            cases hx
    clear heq e
    subst en
    repeat wp_step
    have ep : (Obj.mapFields (fun fs : Array Value => fs.extract 0 3 ++ (List.map (fun n : Nat => rawInt (n : Int)) next).toArray) { cls := Value.type "itertools.combinations", data := Data.fields (Value.ref p :: rawInt 1 :: last :: List.map (fun k : Nat => rawInt (k : Int)) [i, j, k]).toArray }).data.pastItsLine = none := pastItsLine_fields (by
      have z : ((Value.ref p :: rawInt 1 :: last :: List.map (fun k : Nat => rawInt (k : Int)) [i, j, k]).toArray.extract 0 3 ++ (List.map (fun n : Nat => rawInt (n : Int)) next).toArray).size ≤ 1003 := by simp; omega
      exact Nat.le_trans z (by rw [sizeLine_eq]; decide))
    rw [ep]
    refine wpAny_pure ?_
    simp only [List.getElem_toArray, List.getElem_cons_zero]
    have sz2 : ¬ (List.map (fun i => items.toArray.getD i Value.none) next).toArray.size > sizeLine := by
      rw [List.size_toArray, List.length_map, sizeLine_eq]
      omega
    repeat (first | wp_step | rw [if_neg sz2])
    have e2 : ((fun fs : Array Value => fs.extract 0 3 ++ (List.map (fun n : Nat => rawInt (n : Int)) next).toArray) (Value.ref p :: rawInt 1 :: last :: List.map (fun k : Nat => rawInt (k : Int)) [i, j, k]).toArray)[2]? = some last := by simp
    rw [e2]
    refine wpAny_pure ?_
    repeat wp_step
    rw [Heap.size_update]
    have h1 := Heap.get?_update_self (Obj.mapFields fun fs : Array Value => fs.extract 0 3 ++ (List.map (fun n : Nat => rawInt (n : Int)) next).toArray) hit rfl
    have pn : ∀ b o, b ≠ it → s.heap.get? b = some o → ((s.heap.update it (Obj.mapFields fun fs : Array Value => fs.extract 0 3 ++ (List.map (fun n : Nat => rawInt (n : Int)) next).toArray)).push { cls := Value.type "tuple", data := Data.seq (List.map (fun i => items.toArray.getD i Value.none) next).toArray }).get? b = some o := fun b o hb e => Heap.get?_push_of_some _ ((Heap.get?_update_other _ _ hb.symm).trans e)
    have hlt : it < s.heap.objs.size := Heap.lt_size hit
    have tn : ((s.heap.update it (Obj.mapFields fun fs : Array Value => fs.extract 0 3 ++ (List.map (fun n : Nat => rawInt (n : Int)) next).toArray)).push { cls := Value.type "tuple", data := Data.seq (List.map (fun i => items.toArray.getD i Value.none) next).toArray }).get? s.heap.objs.size = some { cls := Value.type "tuple", data := Data.seq (List.map (fun i => items.toArray.getD i Value.none) next).toArray } := by
      have z := Heap.get?_push_size (s.heap.update it (Obj.mapFields fun fs : Array Value => fs.extract 0 3 ++ (List.map (fun n : Nat => rawInt (n : Int)) next).toArray)) (o := { cls := Value.type "tuple", data := Data.seq (List.map (fun i => items.toArray.getD i Value.none) next).toArray }) rfl
      rw [Heap.size_update] at z
      exact z
    refine ⟨_, rfl, wpAny_pure (hQ _ ?_ ⟨_, (Heap.get?_update_other _ _ hne.symm).trans (pn p _ hne ho), rfl, _, rfl⟩ ⟨_, (Heap.get?_update_other _ _ (Nat.ne_of_lt hlt)).trans tn, rfl, _, rfl⟩ fun b o hb e => (Heap.get?_update_other _ _ hb.symm).trans (pn b o hb e))⟩
    exact (Heap.get?_update_self _ (Heap.get?_push_of_some _ h1) rfl).trans (by simp [Obj.mapFields, rawInt])
  · rename_i heq
    have e := (key3 _ _).symm.trans heq
    exfalso
    rw [sz] at e
    unfold nx3 at hx
    by_cases c0 : k + 1 < items.length
    · rw [if_pos (by simp; omega)] at e
      cases e
    · rw [if_neg c0] at hx
      rw [if_neg (by simp; omega)] at e
      by_cases c1 : j + 2 < items.length
      · rw [if_pos (by simp; omega)] at e
        cases e
      · rw [if_neg c1] at hx
        rw [if_neg (by simp; omega)] at e
        by_cases c2 : i + 3 < items.length
        · rw [if_pos (by simp; omega)] at e
          cases e
        · rw [if_neg c2] at hx
          cases hx
theorem next_end3 {it p : Addr} {last : Value} {items : List Value} {i j k : Nat} {Q : Option Value → Shared → Prop} (hh : A.handled = none) (hit : IsCb s.heap it p 1 last [i, j, k]) (hp : IsPool s.heap p items) (hne : p ≠ it) (hij : i < j ∧ j < k ∧ k < items.length) (hx : nx3 items.length i j k = none)
    (hQ : ∀ h', Heap.ExtBut it s.heap h' → Q none { s with heap := h' }) :
    wpAny (model prog w) A (pyNext (.ref it)) Q E s := by
  have hT : s.TypeIs (.ref it) "itertools.combinations" := ⟨_, hit, rfl⟩
  unfold pyNext
  refine wpAny_bind (wpAny_attempt (wpAny_callSpecial?_slot (name := Str.ofString "__next__") hT next_cb (wpAny_call_entry next_cb hT entry_next ?_ (args_next _))))
  show wpAny _ _ (Builtin.«itertools.combinations.__next__» ⟨[.ref it], []⟩) _ _ s
  obtain ⟨⟨cls, dd, data, sl⟩, ho, hc, m, hd⟩ := id hp
  simp only at hc hd
  subst hc hd
  repeat wp_step
  simp only [List.drop_succ_cons, List.drop_zero, List.map_map, Function.comp_def, rawInt, Int.toNat_natCast, List.map_id']
  have sz : items.toArray.size = items.length := List.size_toArray ..
  have hh1 : A.in1.handled = none := hh
  split
  · rename_i next heq
    have e := (key3 _ _).symm.trans heq
    exfalso
    rw [sz] at e
    unfold nx3 at hx
    by_cases c0 : k + 1 < items.length
    · rw [if_pos c0] at hx
      cases hx
    · rw [if_neg c0] at hx
      rw [if_neg (by simp; omega)] at e
      by_cases c1 : j + 2 < items.length
      · rw [if_pos c1] at hx
        cases hx
      · rw [if_neg c1] at hx
        rw [if_neg (by simp; omega)] at e
        by_cases c2 : i + 3 < items.length
        · rw [if_pos c2] at hx
          cases hx
        · rw [if_neg c2] at hx
          rw [if_neg (by simp; omega)] at e
          cases e
  · rename_i heq
    clear heq
    repeat wp_step
    simp only [raiseNew]
    refine wpAny_bind (wpAny_handled ?_)
    rw [hh1]
    refine wpAny_bind (wpAny_pure (wpAny_throw ?_))
    refine wpAny_bind (wpAny_isInstance (T := "StopIteration") (b := true) ?_ isSubtype_stop (wpAny_pure (hQ _ ?_)))
    · exact ⟨_, Heap.get?_push_size _ rfl, rfl⟩
    exact (Heap.ExtBut.push (Heap.ExtBut.push (Heap.SameBut.extBut (Heap.SameBut.update ..)) _) _)
/-- where there are too few -/
theorem next_few {it p : Addr} {last : Value} {ks : List Nat} {items : List Value} {Q : Option Value → Shared → Prop} (hh : A.handled = none) (hit : IsCb s.heap it p 2 last ks) (hp : IsPool s.heap p items) (hne : p ≠ it)
    (hQ : ∀ h', Heap.ExtBut it s.heap h' → Q none { s with heap := h' }) :
    wpAny (model prog w) A (pyNext (.ref it)) Q E s := by
  have hT : s.TypeIs (.ref it) "itertools.combinations" := ⟨_, hit, rfl⟩
  unfold pyNext
  refine wpAny_bind (wpAny_attempt (wpAny_callSpecial?_slot (name := Str.ofString "__next__") hT next_cb (wpAny_call_entry next_cb hT entry_next ?_ (args_next _))))
  show wpAny _ _ (Builtin.«itertools.combinations.__next__» ⟨[.ref it], []⟩) _ _ s
  have hh1 : A.in1.handled = none := hh
  repeat wp_step
  simp only [raiseNew]
  refine wpAny_bind (wpAny_handled ?_)
  rw [hh1]
  refine wpAny_bind (wpAny_pure (wpAny_throw ?_))
  refine wpAny_bind (wpAny_isInstance (T := "StopIteration") (b := true) ?_ isSubtype_stop (wpAny_pure (hQ _ ?_)))
  · exact ⟨_, Heap.get?_push_size _ rfl, rfl⟩
  exact ((Heap.ExtBut.refl it s.heap).push _).push _
end
end Cb
set_option Elab.async false
set_option linter.all false
set_option maxRecDepth 100000
set_option maxHeartbeats 4000000
/-! for .. in combinations(a list, 2 or 3) -/
namespace Vd
open PySem PySem.Spec PyProof.Rows L2 Mt
/-- what stands at places of a list of values -/
def atV (xs : List V) (ks : List Nat) : List V := ks.map fun q => xs.getD q .non
def Itb (xs : List V) (r : Nat) : It where
  go := fun i _ => ∃ ks, plc xs.length r i = some ks
  yld := fun i H v H' => ∃ (T : Addr) (ks : List Nat), v = .ref T ∧ H T = none ∧ plc xs.length r i = some ks ∧ H' = upd H T (.tup (atV xs ks))
  stop := fun i _ => plc xs.length r i = none ∧ ∀ j, j < i → ∃ ks, plc xs.length r j = some ks
/-- its cells at turn i -/
def CbAt (us : List Value) (r : Nat) (it p : Addr) (i : Nat) (h : Heap) : Prop :=
  Cb.IsPool h p us ∧ ∃ (st : Int) (last : Value) (ks : List Nat), Cb.IsCb h it p st last ks ∧ match i with
    | 0 => if r ≤ us.length then st = 0 ∧ last = .none ∧ ks = List.range r else st = 2
    | j + 1 => st = 1 ∧ plc us.length r j = some ks
theorem vals_at {xs : List V} {us : List Value} (r : Vals xs us) (q : Nat) : RelV (xs.getD q .non) (us.toArray.getD q Value.none) := by
  have e : us.toArray.getD q Value.none = us.getD q Value.none := by simp
  rw [e]
  clear e
  induction r generalizing q with
  | nil => exact rfl
  | cons h t ih =>
    cases q with
    | zero => exact h
    | succ q => exact ih q
theorem vals_atL {xs : List V} {us : List Value} (r : Vals xs us) : ∀ ks : List Nat, Vals (atV xs ks) (Cb.at_ us ks)
  | [] => .nil
  | k :: ks => .cons (vals_at r k) (vals_atL r ks)
theorem turn_b {P : Program} {w : World} {K : Fr} {tg : Expr} {xs : List V} {us : List Value} {r : Nat} {it p : Addr} (hr : r = 2 ∨ r = 3) (rv : Vals xs us) (hne : p ≠ it) :
    Turn P w K tg (Itb xs r) [it, p] it (CbAt us r it p) where
  mem := List.mem_cons_self ..
  obj := fun i h ⟨⟨op, ho, hc, m, hd⟩, st, last, ks, hit, _⟩ b hb => by
    have e' : b = it ∨ b = p := by simpa using hb
    rcases e' with z | z
    · rw [z]; exact ⟨_, hit, fun v q => nomatch q⟩
    · rw [z]; exact ⟨op, ho, fun v q => by rw [hd] at q; cases q⟩
  keep := fun i h h' ⟨⟨op, ho, hc⟩, st, last, ks, hit, hm⟩ k => ⟨⟨op, k p (by simp) _ ho, hc⟩, st, last, ks, k it (by simp) _ hit, hm⟩
  item := by
    intro X hP hw hK hc i pins s σ H E I hf st ⟨ks, hks⟩
    subst hP hw hK
    obtain ⟨hp, st, last, ks0, hit, hm⟩ := st
    have len : xs.length = us.length := rv.length
    rw [len] at hks
    have hinc := plc_inc hr i ks hks
    have lk : ks.length ≤ 1000 := by
      rcases hinc.1 with ⟨_, a, b, rfl, _⟩ | ⟨_, a, b, c, rfl, _⟩ <;> exact Nat.le_of_ble_eq_true rfl
    -- what is told behind the step
    have fin : ∀ h', Cb.IsCb h' it p 1 (.ref s.heap.objs.size) ks → Cb.IsPool h' p us → Cb.IsPool h' s.heap.objs.size (Cb.at_ us ks) → (∀ b o, b ≠ it → s.heap.get? b = some o → h'.get? b = some o) →
        ∃ u, some (Value.ref s.heap.objs.size) = some u ∧ wpAny (model X.prog X.w) X.A (letOwnedTupleGo tg (.ref it) u) (fun _ s2 => ∃ x H', Inv X pins σ H' s2 ∧ RelV x u ∧ (Itb xs r).yld i H x H' ∧ CbAt us r it p (i + 1) s2.heap ∧ ∀ b ∈ [it, p], H' b = none) E { s with heap := h' } := fun h' c1 c2 c3 c4 => by
      obtain ⟨o, ho, hcl, m, hda⟩ := c3
      have new : ObjOk X.prog X.w (upd H s.heap.objs.size (.tup (atV xs ks))) h' s.heap.objs.size (.tup (atV xs ks)) :=
        ⟨by show (atV xs ks).length ≤ sizeLine; unfold atV; rw [List.length_map, sizeLine_eq]; omega, Cb.at_ us ks, vals_atL rv ks, ⟨o, ho, hcl, m, hda⟩⟩
      have I2 : Inv X pins σ (upd H s.heap.objs.size (.tup (atV xs ks))) { s with heap := h' } :=
        I.turnedNew (ch := [it]) (fun c o hb q => c4 c o (by simpa using hb) q) (fun b hb => hf b (by simp at hb; simp [hb])) (Nat.le_refl _) new
      refine ⟨_, rfl, go_of (s := { s with heap := h' }) c1 rfl rfl (by decide) ⟨.ref s.heap.objs.size, _, I2, rfl, ⟨s.heap.objs.size, ks, rfl, I.hok.fresh (Nat.le_refl _), by rw [len]; exact hks, rfl⟩, ⟨c2, 1, _, ks, c1, rfl, hks⟩, fun b hb => ?_⟩⟩
      have hlt : b < s.heap.objs.size := by
        have e' : b = it ∨ b = p := by simpa using hb
        rcases e' with z | z
        · rw [z]; exact Heap.lt_size hit
        · rw [z]; obtain ⟨_, q, _⟩ := hp; exact Heap.lt_size q
      rw [upd_ne (Nat.ne_of_lt hlt)]
      exact (hf b hb).1
    cases i with
    | zero =>
      have hks' : (if r ≤ us.length then some (List.range r) else none) = some ks := hks
      split at hks'
      · rename_i hrn
        have hm' : if r ≤ us.length then st = 0 ∧ last = .none ∧ ks0 = List.range r else st = 2 := hm
        rw [if_pos hrn] at hm'
        obtain ⟨rfl, rfl, rfl⟩ := hm'
        cases hks'
        exact Cb.next_fresh hit hp hne lk fin
      · cases hks'
    | succ j =>
      obtain ⟨rfl, hj⟩ := (show st = 1 ∧ plc us.length r j = some ks0 from hm)
      have hstep : nxL us.length ks0 = some ks := by
        have z : (plc us.length r j).bind (nxL us.length) = some ks := hks
        rw [hj] at z
        exact z
      rcases (plc_inc hr j ks0 hj).1 with ⟨_, a, b, rfl, h1, h2⟩ | ⟨_, a, b, c, rfl, h1, h2, h3⟩
      · exact Cb.next_go2 hit hp hne ⟨h1, h2⟩ hstep fin
      · exact Cb.next_go3 hit hp hne ⟨h1, h2, h3⟩ hstep fin
  done := by
    intro X hP hw hK hc i pins s σ H E I hf st ⟨hn, hs⟩
    subst hP hw hK
    obtain ⟨hp, st, last, ks0, hit, hm⟩ := st
    have len : xs.length = us.length := rv.length
    rw [len] at hn
    obtain ⟨f0, f1, f2, f3, f4, f5⟩ := hf it (by simp)
    have hd : X.A.handled = none := I.ok.hd hc
    have fin : ∀ h', Heap.ExtBut it s.heap h' → (none : Option Value) = none ∧ Inv X pins σ H { s with heap := h' } := fun h' eb => ⟨rfl, I.turned (t' := s.toks) (fun b o hb e => eb b o hb e) f0 f1 f3 f4 f5⟩
    cases i with
    | zero =>
      have hks' : (if r ≤ us.length then some (List.range r) else none) = none := hn
      split at hks'
      · cases hks'
      · rename_i hrn
        have hm' : if r ≤ us.length then st = 0 ∧ last = .none ∧ ks0 = List.range r else st = 2 := hm
        rw [if_neg hrn] at hm'
        subst hm'
        exact Cb.next_few hd hit hp hne fin
    | succ j =>
      obtain ⟨rfl, hj⟩ := (show st = 1 ∧ plc us.length r j = some ks0 from hm)
      have hstep : nxL us.length ks0 = none := by
        have z : (plc us.length r j).bind (nxL us.length) = none := hn
        rw [hj] at z
        exact z
      rcases (plc_inc hr j ks0 hj).1 with ⟨_, a, b, rfl, h1, h2⟩ | ⟨_, a, b, c, rfl, h1, h2, h3⟩
      · exact Cb.next_end2 hd hit hp hne ⟨h1, h2⟩ hstep fin
      · exact Cb.next_end3 hd hit hp hne ⟨h1, h2, h3⟩ hstep fin
  self := fun A i s Q E st h => let ⟨_, _, _, _, hit, _⟩ := st; Cb.iter_cb_ hit h
def iCb (K : Fr) (ta : TA) : TI := fun σ H R => ta σ H fun vs H1 => ∃ (a : Addr) (xs : List V) (r : Nat), vs = [.ref a, .int (r : Int)] ∧ (r = 2 ∨ r = 3) ∧ SqL K H1 a xs ∧ R (Itb xs r) H1
theorem pi_cb {X : Cx} {e e2 tg : Expr} {ta : TA} {p pos : Pos} (hg : Gl X "combinations") (hm : X.mg "combinations" = some (.type "itertools.combinations")) (ha : PA X [e, e2] ta)
    (hs : starEach [e, e2] X.env = (false, eval e X.env) :: starEach [e2] X.env := by rfl) (hpl : (backTo pos (starEach [e2] X.env)).any (·.1) = false := by rfl) :
    PI X tg (.Call (.Name "combinations" p) [e, e2] [] pos) (iCb X.K ta) := by
  refine ⟨fun pins s σ H R I h => Call_ (ld_glob I hg hm (PyProof.Rows.callWith_type1 (thn (ha.run pos pins s σ H _ I h) fun us s1 hq => ?_) hs hpl))⟩
  obtain ⟨vs, H1, I1, r1, a, xs, r, ev, hr, qa, q⟩ := hq
  subst ev
  obtain _ | ⟨ra, r2⟩ := r1
  obtain _ | ⟨rb, r3⟩ := r2
  cases r3
  cases ra
  obtain ⟨tz, rfl⟩ := rb
  obtain ⟨cs, va, pl, hz⟩ := I1.list qa
  refine Cb.call_cb (items := cs) (by rcases hr with rfl | rfl <;> decide) pl.isList (by have z := va.length; omega) fun h' p' e' hc hp hne hsp hse hk => Cb.iter_cb_ hc ?_
  have I2 : Inv X pins σ H1 { s1 with heap := h' } := I1.kept (t' := s1.toks) hk
  refine ⟨e', [e', p'], _, _, H1, rfl, I2, turn_b (us := cs) hr va hne, ⟨hp, _, _, _, hc, ?_⟩, fun b hb => ?_, q⟩
  · show if r ≤ cs.length then _ else _
    by_cases c : r ≤ cs.length
    · rw [if_pos c]
      exact ⟨if_neg (by omega), rfl, rfl⟩
    · rw [if_neg c]
      exact if_pos (by omega)
  · have e1 : b = e' ∨ b = p' := by simpa using hb
    rcases e1 with z | z
    · rw [z]; exact I1.fpOk hse (I1.hok.fresh hse)
    · rw [z]; exact I1.fpOk hsp (I1.hok.fresh hsp)
end Vd
set_option Elab.async false
set_option linter.all false
set_option maxRecDepth 100000
set_option maxHeartbeats 6400000
/-! set(a list of ints); sorted of it -/
set_option Elab.async false
set_option linter.all false
set_option maxRecDepth 100000
set_option maxHeartbeats 4000000
/-! sorted(set(..)), combinations in comprehensions, any, in -/
namespace Vd
open PySem PySem.Spec PyProof.Rows L2 Mt
section
variable {K : Fr} {w : WA} {ρ : Rho} {te ta tb tl : TE} {tt : TT} {S : PyData → Prop} {R : Rt} {N : Rho → Prop} {tu ts : TS} {g : TG} {ds : List PyData} {vs : List Nat}
theorem ints_of {H : Hp} {xs : List V} {ns : List Int} (h : TpAll K H xs (ns.map PyData.int)) : xs = ns.map V.int := by
  induction ns generalizing xs with
  | nil => cases h; rfl
  | cons n ns ih =>
    cases h with
    | cons h1 h2 => rw [h1.inv_int, ih h2]; rfl
/-- any([..]) -/
theorem walk_b {xs : List V} {r : Nat} (hr : r = 2 ∨ r = 3) : Walk (Itb xs r) (plcN xs.length r) (fun _ => True) (fun i H v H' => ∃ (T : Addr) (ks : List Nat), v = .ref T ∧ H T = none ∧ plc xs.length r i = some ks ∧ H' = upd H T (.tup (atV xs ks))) :=
  ⟨fun i _ hi _ => plcN_some hr hi, fun _ _ => ⟨plcN_none hr, fun j hj => plcN_some hr hj⟩, fun i H v H' _ _ y => y⟩
/-- what stands at places of a list -/
def atD (ds : List PyData) (ks : List Nat) : List PyData := ks.map fun q => ds.getD q .none
theorem tp_at {H : Hp} {xs : List V} (h : TpAll K H xs ds) (q : Nat) : Tp K H (xs.getD q .non) (ds.getD q .none) := by
  induction ds generalizing xs q with
  | nil => cases h; exact .non
  | cons d ds ih =>
    cases h with
    | cons h1 h2 =>
      cases q with
      | zero => exact h1
      | succ q => exact ih h2 q
theorem tp_atL {H : Hp} {xs : List V} (h : TpAll K H xs ds) : ∀ ks : List Nat, TpAll K H (atV xs ks) (atD ds ks)
  | [] => .nil
  | k :: ks => .cons (tp_at h k) (tp_atL h ks)
end
end Vd
set_option Elab.async false
set_option linter.all false
set_option maxRecDepth 100000
set_option maxHeartbeats 4000000
/-! lists and tuples of ranges, tails of lists -/
namespace Vd
open PySem PySem.Spec PyProof.Rows L2 Mt
section
variable {K : Fr} {w : WA} {ρ : Rho} {te ta tb tl : TE} {tt : TT} {S : PyData → Prop} {R : Rt} {N : Rho → Prop} {tu ts : TS} {g : TG} {ds : List PyData} {vs : List Nat}
/-- lo, lo + c, .. (n of them) -/
def rgI (i c : Int) (n : Nat) : List Int := (List.range n).map fun k => i + (k : Nat) * c
end
end Vd
set_option Elab.async false
set_option linter.all false
set_option maxRecDepth 100000
set_option maxHeartbeats 4000000
/-! x not in a new list -/
namespace L2
open PySem PySem.Spec PyProof.Rows
theorem Room.u65 {k : Nat} {A : Around} (r : Room k A) : A.units + 65 < cLine := by have := r.un; omega
end L2
namespace Vd
open PySem PySem.Spec PyProof.Rows L2 Mt
end Vd
set_option Elab.async false
set_option linter.all false
set_option maxRecDepth 100000
set_option maxHeartbeats 4000000
/-! sorted of a list of tuples of ints, of any lengths above 0 -/
namespace Vd
open PySem PySem.Spec PyProof.Rows L2 Mt PySem.W
/-- tuples of ints in order -/
def srt (Ks : List (List Int)) : List (List Int) := Ks.mergeSort fun p q => decide (p ≤ q)
end Vd
set_option Elab.async false
set_option linter.all false
set_option maxRecDepth 100000
set_option maxHeartbeats 4000000
namespace My
open PySem PySem.Spec PyProof.Rows L2 Vd Mt
structure FrOk (n : Int) (M : List Int) (x : Rat) : Prop where
  hn : 2 ≤ n ∧ n ≤ 60
  hm : 2 ≤ M.length ∧ M.length ≤ 8
  hb : ∀ m ∈ M, 0 ≤ m ∧ m ≤ n - 1
  hs : M.Pairwise (· < ·)
  hx : 0 < x.num
section
variable {K : PySem.W.Frag} {w : WA} {ρ : Rho} {te ta tb tl : TE} {tt : TT} {g : TG} {vs : List Nat} {α : Type} [Inhabited α]
/-- comprehensions over what is told by a list of things -/
theorem el_cT {L : List α} (enc : α → PyData) (p : α → Bool) (f : α → PyData) (h : EvD K w tl ρ (Is (.tuple (L.map enc)))) (hz : L.length ≤ 1000)
    (ht : ∀ a ∈ L, ∃ ρ1, Tc K w g vs (enc a) (wipeR ρ vs) ρ1 ∧ EvT K w tt ρ1 (Is (p a)) ∧ (p a = true → EvD K w te ρ1 (Is (f a)))) : EvL K w (tLc (iTup K tl) g tt te vs) ρ (Is ((L.filter p).map f)) := by
  refine EvL.mono (el_compT (fun i => p (L.getD i default)) (fun i => f (L.getD i default)) h (by rw [List.length_map]; exact hz) fun i d hd => ?_) fun ds e => ?_
  · rw [List.getElem?_map] at hd
    cases ej : L[i]? with
    | none => rw [ej] at hd; cases hd
    | some a =>
      rw [ej] at hd
      cases hd
      rw [show L.getD i default = a by rw [List.getD_eq_getElem?_getD, ej]; rfl]
      exact ht a (List.mem_of_getElem? ej)
  · rw [show ds = _ from e, List.length_map]
    exact idx_filter L default p f
theorem el_cL {i0 : Nat} {L : List α} (enc : α → PyData) (p : α → Bool) (f : α → PyData) (h : LstAt ρ i0 (L.map enc)) (hz : L.length ≤ 1000)
    (ht : ∀ a ∈ L, ∃ ρ1, Tc K w g vs (enc a) (wipeR ρ vs) ρ1 ∧ EvT K w tt ρ1 (Is (p a)) ∧ (p a = true → EvD K w te ρ1 (Is (f a)))) : EvL K w (tLc (iList K (tVar i0)) g tt te vs) ρ (Is ((L.filter p).map f)) := by
  refine EvL.mono (el_compL (fun i => p (L.getD i default)) (fun i => f (L.getD i default)) h (by rw [List.length_map]; exact hz) fun i d hd => ?_) fun ds e => ?_
  · rw [List.getElem?_map] at hd
    cases ej : L[i]? with
    | none => rw [ej] at hd; cases hd
    | some a =>
      rw [ej] at hd
      cases hd
      rw [show L.getD i default = a by rw [List.getD_eq_getElem?_getD, ej]; rfl]
      exact ht a (List.mem_of_getElem? ej)
  · rw [show ds = _ from e, List.length_map]
    exact idx_filter L default p f
theorem filter_tt {L : List α} : L.filter (fun _ => true) = L := List.filter_eq_self.mpr fun _ _ => rfl
end
end My
namespace My
open PySem PySem.Spec PyProof.Rows L2 Vd Mt
end My
namespace Vd
open PySem PySem.Spec PyProof.Rows L2
/-- return all([.. for .. in range(e)]), each True, e told without a change -/
theorem ret_allA {K : Fr} {te ta : TE} {j : Nat} {vs : List Nat} {σ : L2.St} {H : Hp} {D : Ends} {m : Int} (ha : ∀ Q : VK, Q (.int m) H → ta σ H Q) (n : Nat) (hm : m = (n : Int)) (hn : n ≤ 1000) (hw : ∀ x, wipe ((wipe σ vs).set j (some x)) vs = wipe σ vs)
    (ht : ∀ (i : Nat) (H1 : Hp), i < n → Kx H H1 → ∀ Q : VK, (∀ H2, Kx H1 H2 → Q (.bl true) H2) → te ((wipe σ vs).set j (some (.int ((0 : Int) + (i : Int))))) H1 Q) (hd : ∀ H', D.rt (.bl true) H') :
    tRet (tCB (rAll K) (tCons (tLc (iRng1 (tCons ta tNil)) (gName j) tYes te vs) tNil)) D σ H :=
  ha _ (ret_all (K := K) n hm hn hw ht hd)
end Vd
namespace My
open PySem PySem.Spec PyProof.Rows L2 Vd Mt
end My
namespace Vd
open PySem PySem.Spec PyProof.Rows L2
end Vd
set_option Elab.async false
set_option linter.all false
set_option maxRecDepth 100000
set_option maxHeartbeats 4000000
namespace Vd
open PySem PySem.Spec PyProof.Rows L2
end Vd
namespace My
open PySem PySem.Spec PyProof.Rows L2 Vd Mt
end My
set_option Elab.async false
set_option linter.all false
set_option maxRecDepth 100000
set_option maxHeartbeats 4000000
namespace Vd
open PySem PySem.Spec PyProof.Rows L2
section
variable {K : Fr} {w : WA} {ρ : Rho} {te ta tb tl : TE} {tt : TT} {t : TT} {S : PyData → Prop} {R : Rt} {N : Rho → Prop} {tu ts : TS} {g : TG} {ds : List PyData} {vs : List Nat} {Ss : List PyData → Prop} {tr : TA}
/-- is None, is not None, of an int or None -/
def noneB : PyData → Bool
  | .none => true
  | _ => false
end
end Vd
namespace My
open PySem PySem.Spec PyProof.Rows L2 Vd Mt
end My
set_option Elab.async false
set_option linter.all false
set_option maxRecDepth 100000
set_option maxHeartbeats 4000000
namespace My
open PySem PySem.Spec PyProof.Rows L2 Vd Mt PySem.W
theorem lay_ints : ∀ k : List Int, PyData.canLayAll0 (k.map PyData.int) = true
  | [] => rfl
  | x :: k => by
    rw [List.map_cons, PyData.canLayAll0, lay_ints k]
    rfl
end My
set_option Elab.async false
set_option linter.all false
set_option maxRecDepth 100000
set_option maxHeartbeats 4000000
namespace Vd
open PySem PySem.Spec PyProof.Rows L2
/-! a list of one's own that is only read from here on -/
end Vd
namespace Vd
open PySem PySem.Spec PyProof.Rows L2
section
variable {K : Fr} {w : WA} {ρ : Rho} {te ta tb tl : TE} {tt : TT} {S : PyData → Prop} {R : Rt} {N : Rho → Prop} {tu ts : TS} {g : TG} {ds es : List PyData} {Ss : List PyData → Prop}
/-- a list that has a name != a new list -/
theorem ev_neVL {i : Nat} (h : LstAt ρ i ds) (hb : EvL K w te ρ (Is es)) (sa : SeqAt.shaped (.list ds) = true) (sb : SeqAt.shaped (.list es) = true) : EvD K w (tOp (rNeD K) (tVar i) te) ρ (Is (.bool (!PyData.eqv (.list ds) (.list es)))) := fun σ H0 H E Q q => by
  obtain ⟨r, ys, e, sq, t, nw⟩ := E.lst h
  refine ⟨.ref r, e, hb σ H0 H E _ fun p xs ds' H1 g1 s1 n1 h1 t1 => ?_⟩
  cases (show ds' = es from s1)
  exact ⟨.list ds, .list es, .lst (sqL_kp g1.1 nw sq) ((t.go E.wok g1).dp (nd_L (nd_sh sa))), .lst (.inl (.inl h1)) (t1.dp (nd_L (nd_sh sb))), sa, sb, q _ _ H1 g1 rfl (.bl _)⟩
/-- is None, of None or a tuple -/
theorem ev_isNT {d : PyData} (ha : EvD K w ta ρ (Is d)) (hd : d = .none ∨ ∃ l, d = .tuple l) : EvD K w (tOp (fun x y H Q => y = .non ∧ Q (.bl (decide (x = .non))) H) ta (tC .non)) ρ (Is (.bool (noneB d))) := ev_op ha ev_non fun a' b' ea eb x y H k tx ty Q q => by
  rw [ea] at tx; rw [eb] at ty
  refine ⟨ty.inv_non, q _ _ H (Go.refl k) ?_ (.bl _)⟩
  rcases hd with rfl | ⟨l, rfl⟩
  · rw [tx.inv_non]; rfl
  · obtain ⟨p, xs, rfl, _⟩ := tx.inv_tup
    rfl
end
end Vd
namespace My
open PySem PySem.Spec PyProof.Rows L2 Vd Mt PySem.W
theorem eqv_rt (k x : Rat) : PyData.eqv (rt k) (rt x) = decide (k = x) := by
  show (k.num == x.num && (((k.den : Int) == (x.den : Int)) && true)) = _
  by_cases h : k = x
  · subst h; simp
  · rw [decide_eq_false h]
    cases e : (k.num == x.num && (((k.den : Int) == (x.den : Int)) && true)) with
    | false => rfl
    | true =>
      simp only [Bool.and_true, Bool.and_eq_true, beq_iff_eq] at e
      exact absurd (Rat.ext e.1 (by omega)) h
end My
namespace My
open PySem PySem.Spec PyProof.Rows L2 Vd Mt PySem.W
theorem map_at {α β : Type} {f : α → β} {l : List α} {i : Nat} {b : β} (h : (l.map f)[i]? = some b) : ∃ a, l[i]? = some a ∧ b = f a := by
  rw [List.getElem?_map] at h
  cases e : l[i]? with
  | none => rw [e] at h; cases h
  | some a => rw [e] at h; cases h; exact ⟨a, rfl, rfl⟩
end My
namespace Vd
open PySem PySem.Spec PyProof.Rows L2
end Vd
namespace My
open PySem PySem.Spec PyProof.Rows L2 Vd Mt PySem.W
end My
namespace Vd
open PySem PySem.Spec PyProof.Rows L2
end Vd
namespace My
open PySem PySem.Spec PyProof.Rows L2 Vd Mt PySem.W
theorem shaped_iL (ns : List Int) : SeqAt.shaped (.list (ns.map PyData.int)) = true := by
  unfold SeqAt.shaped
  rw [PyData.canLay0, lay_ints, PyData.depth, depth_ints]
  rfl
end My
set_option Elab.async false
set_option linter.all false
set_option maxRecDepth 100000
set_option maxHeartbeats 4000000
namespace Vd
open PySem PySem.Spec PyProof.Rows L2
end Vd
namespace My
open PySem PySem.Spec PyProof.Rows L2 Vd Mt PySem.W
end My
namespace Vd
open PySem PySem.Spec PyProof.Rows L2
end Vd
set_option Elab.async false
set_option linter.all false
/-! two pairs of opposite feet -/
namespace Mt
end Mt
set_option Elab.async false
set_option linter.all false
set_option maxRecDepth 100000
set_option maxHeartbeats 4000000
namespace My
open PySem PySem.Spec PyProof.Rows L2 Vd Mt PySem.W
end My
namespace My
open PySem PySem.Spec PyProof.Rows L2 Vd Mt PySem.W
end My
set_option Elab.async false
set_option linter.all false
set_option maxRecDepth 100000
set_option maxHeartbeats 4000000
namespace Vd
open PySem PySem.Spec PyProof.Rows L2
/-- two new lists, != -/
theorem ev_neLL {K : Fr} {w : WA} {ρ : Rho} {ta tb : TE} {ds es : List PyData} (ha : EvL K w ta ρ (Is ds)) (hb : EvL K w tb ρ (Is es)) (sa : SeqAt.shaped (.list ds) = true) (sb : SeqAt.shaped (.list es) = true) : EvD K w (tOp (rNeD K) ta tb) ρ (Is (.bool (!PyData.eqv (.list ds) (.list es)))) := fun σ H0 H E Q q =>
  ha σ H0 H E _ fun p xs ds' H1 g1 s1 n1 h1 t1 => hb σ H0 H1 (E.go g1) _ fun r ys es' H2 g2 s2 n2 h2 t2 => by
    cases (show ds' = ds from s1)
    cases (show es' = es from s2)
    have nw : w ≠ some p := nw_of (H' := H) E.wok n1
    exact ⟨.list ds, .list es, .lst (.inl (.inl (g2.1 p _ nw h1))) ((t1.go g1.2 g2).dp (nd_L (nd_sh sa))), .lst (.inl (.inl h2)) (t2.dp (nd_L (nd_sh sb))), sa, sb, q _ _ H2 (g1.trans g2) rfl (.bl _)⟩
end Vd
namespace My
open PySem PySem.Spec PyProof.Rows L2 Vd Mt PySem.W
end My
set_option Elab.async false
set_option linter.all false
set_option maxRecDepth 100000
set_option maxHeartbeats 4000000
namespace Vd
open PySem PySem.Spec PyProof.Rows L2 Mt PySem.W
section
variable {K : Fr} {w : WA} {ρ : Rho} {te ta tb tl : TE} {tt : TT} {S S2 : PyData → Prop} {R : Rt} {N : Rho → Prop} {tu ts : TS} {g : TG} {ds : List PyData} {vs : List Nat}
/-- for i, x in enumerate(t) -/
theorem run_forE (h : EvD K w te ρ (Is (.tuple ds))) (I : Nat → Rho → Prop) (h0 : I 0 ρ)
    (hs : ∀ (j : Nat) d ρ', ds[j]? = some d → I j ρ' → ∃ ρ1, Tg K w g (.tuple [.int (j : Int), d]) ρ' ρ1 ∧ Run K w tu ρ1 R (fun ρ2 => I (j + 1) ρ2)) (hd : ∀ ρ', I ds.length ρ' → N ρ') :
    Run K w (tFor (iEn0 K (tCons te tNil)) g tu) ρ R N := fun D σ H0 H E r nx =>
  h σ H0 H E _ fun v d H1 g1 s1 t1 => by
    cases (show d = _ from s1)
    obtain ⟨a, xs, rfl, sq, al⟩ := t1.inv_tup
    have F := (E.go g1).pinT sq al
    refine ⟨true, a, xs, rfl, sq, for_it (walk_n (K := K) (t := true) (a := a) (k := 0) (xs := xs)) (fun j σ' H' => ∃ ρ', I j ρ' ∧ Env K w (pinT H0 a xs ds) H' σ' ρ') ⟨ρ, h0, F⟩ (fun j σ' H' _ hz => ?_) (fun j x σ' H' H'' hj hz hy => ?_) fun σ' H' hz => ?_⟩
    · obtain ⟨ρ', _, E'⟩ := hz
      exact E'.pinned.1
    · obtain ⟨ρ', pI, E'⟩ := hz
      obtain ⟨T, x1, rfl, hT, rfl, hx⟩ := hy
      obtain ⟨d, hd1, td⟩ := E'.pinned.2.getv hx
      rw [Int.zero_add]
      obtain ⟨ρ1, tgt, ru⟩ := hs j d ρ' hd1 pI
      have gn := Go.new (o := .tup [.int (j : Int), x1]) E'.wok hT
      have tt : Tp K (upd H' T (.tup [.int (j : Int), x1])) (.ref T) (.tuple [.int (j : Int), d]) := .tup (.inl (.inl upd_same)) (.cons (.int _) (.cons (td.go E'.wok gn) .nil))
      exact tgt _ σ' _ _ _ (E'.go gn) tt fun σ2 H3 _ E2 => ru _ σ2 _ H3 E2 r fun σ3 ρ3 H3 E3 q => ⟨ρ3, q, E3⟩
    · obtain ⟨ρ', pI, E'⟩ := hz
      exact nx σ' ρ' H' E'.unpin (hd ρ' (by rw [← al.length]; exact pI))
end
end Vd
namespace My
open PySem PySem.Spec PyProof.Rows L2 Vd Mt PySem.W
abbrev Frm := Int × List Int × Rat
/-- a frame and one of its kind -/
structure KinF (F G : Frm) (b c : Int) : Prop where
  f : FrOk F.1 F.2.1 F.2.2
  g : FrOk G.1 G.2.1 G.2.2
  k : Kin F.1 G.1 b (fun m => (m * b + c) % G.1)
  m : G.2.1 = frm (fun m => (m * b + c) % G.1) F.2.1
  b : -60 ≤ b ∧ b ≤ 60
theorem KinF.num {F G : Frm} {b c : Int} (h : KinF F G b c) : numI F.1 F.2.1 = numI G.1 G.2.1 := by
  rw [h.m]
  exact (h.k.num h.f.hn h.g.hn h.f.hm h.f.hb (by rw [← h.m]; exact h.g.hb) h.f.hs).symm
theorem frm_b {n' b c : Int} {M : List Int} (h : 0 < n') : ∀ m ∈ frm (fun m => (m * b + c) % n') M, 0 ≤ m ∧ m ≤ n' - 1 := fun m hm => by
  obtain ⟨y, _, rfl⟩ := frm_mem.mp hm
  have := Int.emod_nonneg (y * b + c) (show n' ≠ 0 by omega)
  have := Int.emod_lt_of_pos (y * b + c) h
  show 0 ≤ (y * b + c) % n' ∧ (y * b + c) % n' ≤ n' - 1
  omega
theorem KinF.made {n : Int} {M : List Int} {x : Rat} {b c : Int} (hf : FrOk n M x) (hk : Kin n n b (fun m => (m * b + c) % n)) (hb : -60 ≤ b ∧ b ≤ 60) : KinF (n, M, x) (n, frm (fun m => (m * b + c) % n) M, x) b c :=
  ⟨hf, ⟨hf.hn, by rw [frm_len]; exact hf.hm, frm_b (by have := hf.hn; omega), hk.asc hf.hb (hf.hs.imp fun h => by omega) fun _ h => h, hf.hx⟩, hk, rfl, hb⟩
noncomputable def letF (Fs : List Frm) (j : Int) : Bool := Fs.all fun F => letB j (numI F.1 F.2.1)
end My
set_option Elab.async false
set_option linter.all false
set_option maxRecDepth 100000
set_option maxHeartbeats 4000000
namespace Vd
open PySem PySem.Spec PyProof.Rows L2
end Vd
namespace My
open PySem PySem.Spec PyProof.Rows L2 Vd Mt PySem.W
/-- frames drawn one behind the other, their knots' numbers and the product of their N -/
structure Lot (Fs : List Frm) (ns : List Int) (P : Int) : Prop where
  all : ∀ F ∈ Fs, FrOk F.1 F.2.1 F.2.2
  len : ns.length ≤ 64 * Fs.length
  pos : ∀ m ∈ ns, 0 < m
  lets : ∀ j, isLet ns j = letF Fs j
  bnd : 0 < P ∧ P ≤ 60 ^ Fs.length
  dvd : ∀ F ∈ Fs, F.1 ∣ P
  small : ∀ m ∈ ns, m ≤ 60
theorem Lot.nil : Lot [] [] 1 := ⟨fun _ h => (nomatch h), Nat.le_refl _, fun _ h => (nomatch h), fun _ => rfl, by decide, fun _ h => (nomatch h), fun _ h => (nomatch h)⟩
theorem Lot.one {Fs : List Frm} {ns : List Int} {P : Int} (h : Lot Fs ns P) {j : Int} (hj : j = P - 1 ∨ j = P + 1 ∨ j = 1) : letF Fs j = true := by
  refine List.all_eq_true.mpr fun F hF => ?_
  have hf := h.all F hF
  have sp := numI_spec hf.hn hf.hm hf.hb hf.hs
  have d := Int.dvd_trans sp.2.2.1 (h.dvd F hF)
  refine letB_iff.mpr ?_
  rcases hj with rfl | rfl | rfl
  · right; rwa [show P - 1 + 1 = P by omega]
  · left; rwa [show P + 1 - 1 = P by omega]
  · left; exact Int.dvd_zero _
end My
set_option Elab.async false
set_option linter.all false
set_option maxRecDepth 100000
set_option maxHeartbeats 4000000
/-! two loops in one comprehension, lcm, min of a list, a pick out of lists, sorted(set(a named list)) -/
namespace Vd
open PySem PySem.Spec PyProof.Rows L2 Mt PySem.W
section
variable {K : Fr} {w : WA} {ρ : Rho} {te ta tb tl : TE} {tt : TT} {S S2 : PyData → Prop} {R : Rt} {N : Rho → Prop} {tu ts : TS} {g g1 : TG} {ds : List PyData} {vs vs1 : List Nat}
theorem Env.any {H0 : Bs} {H : Hp} {σ : L2.St} (E : Env K w H0 H σ ρ) (i : Nat) (v : Option V) : Env K w H0 H (σ.set i v) (ρ.set i none) := by
  refine ⟨E.kp, E.pin, E.lin, E.wok, by rw [List.length_set, List.length_set, E.len], fun j o s a b => ?_, fun j k d1 d2 o a b c d => ?_, E.tq, E.zin⟩
  · rw [List.getElem?_set] at a b
    by_cases e : i = j
    · rw [if_pos e] at b
      split at b
      · cases b; trivial
      · cases b
    · rw [if_neg e] at a b
      exact E.sl j o s a b
  · rw [List.getElem?_set] at a b c d
    by_cases e : i = j
    · rw [if_pos e] at a; split at a <;> cases a
    · by_cases e2 : i = k
      · rw [if_pos e2] at b; split at b <;> cases b
      · rw [if_neg e] at a c
        rw [if_neg e2] at b d
        exact E.sep j k d1 d2 o a b c d
end
end Vd
set_option linter.all false
set_option maxRecDepth 100000
/-! least shared harmonics by remainders -/
namespace Mt
theorem letB_mod {j m W : Int} (h : m ∣ W) : letB (j % W) m = letB j m := by
  rw [Bool.eq_iff_iff, letB_iff, letB_iff]
  obtain ⟨q, rfl⟩ := h
  have e := Int.emod_add_mul_ediv j (m * q)
  have a : (m ∣ j % (m * q) - 1) ↔ m ∣ j - 1 := by
    constructor
    · rintro ⟨c, hc⟩; exact ⟨c + q * (j / (m * q)), by grind⟩
    · rintro ⟨c, hc⟩; exact ⟨c - q * (j / (m * q)), by grind⟩
  have b : (m ∣ j % (m * q) + 1) ↔ m ∣ j + 1 := by
    constructor
    · rintro ⟨c, hc⟩; exact ⟨c + q * (j / (m * q)), by grind⟩
    · rintro ⟨c, hc⟩; exact ⟨c - q * (j / (m * q)), by grind⟩
  rw [a, b]
structure Rem (Ns : List Int) (rs : List Int) (W : Int) : Prop where
  pos : 0 < W
  nd : rs.Nodup
  mem : ∀ r, r ∈ rs ↔ (0 ≤ r ∧ r < W ∧ isLet Ns r = true)
  dvd : ∀ m ∈ Ns, m ∣ W
theorem Rem.start : Rem [] [0] 1 := ⟨by decide, List.pairwise_singleton _ _, fun r => by
  rw [List.mem_singleton]
  constructor
  · rintro rfl; exact ⟨by decide, by decide, rfl⟩
  · rintro ⟨a, b, _⟩; omega, fun _ h => nomatch h⟩
def wid (rs : List Int) (W : Int) (s : Nat) : List Int := rs.flatMap fun r => (List.range s).map fun k : Nat => r + W * (k : Int)
theorem mem_wid {rs : List Int} {W x : Int} {s : Nat} (W0 : 0 < W) (hr : ∀ r ∈ rs, 0 ≤ r ∧ r < W) : x ∈ wid rs W s ↔ 0 ≤ x ∧ x < W * s ∧ x % W ∈ rs := by
  unfold wid
  simp only [List.mem_flatMap, List.mem_map, List.mem_range]
  constructor
  · rintro ⟨r, h, k, hk, rfl⟩
    have b := hr r h
    have k0 : 0 ≤ W * (k : Int) := Int.mul_nonneg (by omega) (by omega)
    have k1 : W * ((k : Int) + 1) ≤ W * (s : Int) := Int.mul_le_mul_of_nonneg_left (by omega) (by omega)
    have k2 : W * ((k : Int) + 1) = W * (k : Int) + W := by rw [Int.mul_add, Int.mul_one]
    refine ⟨by omega, by omega, ?_⟩
    rw [Int.add_mul_emod_self_left, Int.emod_eq_of_lt b.1 b.2]
    exact h
  · rintro ⟨h0, h1, h⟩
    have e := Int.emod_add_mul_ediv x W
    have q0 : 0 ≤ x / W := Int.ediv_nonneg h0 (by omega)
    have q1 : x / W < (s : Int) := (Int.ediv_lt_iff_lt_mul W0).mpr (by rw [Int.mul_comm]; exact h1)
    exact ⟨x % W, h, (x / W).toNat, by omega, by rw [show (((x / W).toNat : Nat) : Int) = x / W by omega]; exact e⟩
theorem nodup_wid {rs : List Int} {W : Int} {s : Nat} (W0 : 0 < W) (hr : ∀ r ∈ rs, 0 ≤ r ∧ r < W) (hn : rs.Nodup) : (wid rs W s).Nodup := by
  unfold wid
  refine List.pairwise_flatMap.mpr ⟨fun r h => ?_, ?_⟩
  · refine List.pairwise_map.mpr (List.pairwise_lt_range.imp fun {a b} lt e => ?_)
    have : W * (a : Int) = W * (b : Int) := by omega
    have := Int.eq_of_mul_eq_mul_left (by omega) this
    omega
  · refine hn.imp_of_mem fun {a b} ha hb ne x hx y hy e => ?_
    obtain ⟨k, _, rfl⟩ := List.mem_map.mp hx
    obtain ⟨l, _, e2⟩ := List.mem_map.mp hy
    have a1 := hr a ha
    have b1 := hr b hb
    have z : (a + W * (k : Int)) % W = (b + W * (l : Int)) % W := by rw [e, e2]
    rw [Int.add_mul_emod_self_left, Int.add_mul_emod_self_left, Int.emod_eq_of_lt a1.1 a1.2, Int.emod_eq_of_lt b1.1 b1.2] at z
    exact ne z
theorem lcm_steps {W n : Int} (W0 : 0 < W) (n0 : 0 < n) : ((Nat.lcm W.natAbs n.natAbs : Nat) : Int) = W * (n / ((Nat.gcd W.natAbs n.natAbs : Nat) : Int)) ∧ 0 < n / ((Nat.gcd W.natAbs n.natAbs : Nat) : Int) := by
  have g0 : 0 < Nat.gcd W.natAbs n.natAbs := Nat.gcd_pos_of_pos_left _ (by omega)
  obtain ⟨q, hq⟩ := Nat.gcd_dvd_right W.natAbs n.natAbs
  have en : n = ((Nat.gcd W.natAbs n.natAbs : Nat) : Int) * (q : Int) := by
    have : ((n.natAbs : Nat) : Int) = n := by omega
    rw [← Int.natCast_mul, ← hq]
    omega
  have ed : n / ((Nat.gcd W.natAbs n.natAbs : Nat) : Int) = (q : Int) := by
    have z := Int.mul_ediv_cancel_left (a := ((Nat.gcd W.natAbs n.natAbs : Nat) : Int)) (q : Int) (by omega)
    rw [← en] at z
    exact z
  rw [ed]
  refine ⟨?_, ?_⟩
  · have el : Nat.gcd W.natAbs n.natAbs * Nat.lcm W.natAbs n.natAbs = W.natAbs * n.natAbs := Nat.gcd_mul_lcm _ _
    rw [hq] at el
    have e2 : Nat.gcd W.natAbs n.natAbs * Nat.lcm W.natAbs n.natAbs = Nat.gcd W.natAbs n.natAbs * (W.natAbs * q) := by
      rw [← hq] at el
      rw [el]
      conv => lhs; rw [hq]
      rw [Nat.mul_left_comm]
    have e3 := Nat.eq_of_mul_eq_mul_left g0 e2
    rw [e3, Int.natCast_mul]
    congr 1
    omega
  · rcases Nat.eq_zero_or_pos q with rfl | h
    · rw [Nat.mul_zero] at hq
      omega
    · omega
theorem Rem.next {Ns rs : List Int} {W n : Int} (h : Rem Ns rs W) (n0 : 0 < n) : Rem (Ns ++ [n]) ((wid rs W (n / ((Nat.gcd W.natAbs n.natAbs : Nat) : Int)).toNat).filter fun r => letB r n) ((Nat.lcm W.natAbs n.natAbs : Nat) : Int) := by
  obtain ⟨el, s0⟩ := lcm_steps h.pos n0
  have hr : ∀ r ∈ rs, 0 ≤ r ∧ r < W := fun r m => ⟨((h.mem r).mp m).1, ((h.mem r).mp m).2.1⟩
  have W' : 0 < ((Nat.lcm W.natAbs n.natAbs : Nat) : Int) := by rw [el]; exact Int.mul_pos h.pos s0
  refine ⟨W', (nodup_wid h.pos hr h.nd).sublist List.filter_sublist, fun r => ?_, fun m hm => ?_⟩
  · rw [List.mem_filter, mem_wid h.pos hr, h.mem]
    rw [show (((n / ((Nat.gcd W.natAbs n.natAbs : Nat) : Int)).toNat : Nat) : Int) = n / ((Nat.gcd W.natAbs n.natAbs : Nat) : Int) by omega, ← el]
    have m0 := Int.emod_nonneg r (show W ≠ 0 by have := h.pos; omega)
    have m1 := Int.emod_lt_of_pos r h.pos
    have eq : isLet Ns (r % W) = isLet Ns r := by
      unfold isLet
      rw [Bool.eq_iff_iff, List.all_eq_true, List.all_eq_true]
      exact ⟨fun a m hm => by rw [← letB_mod (h.dvd m hm)]; exact a m hm, fun a m hm => by rw [letB_mod (h.dvd m hm)]; exact a m hm⟩
    rw [eq]
    have ea : isLet (Ns ++ [n]) r = (isLet Ns r && letB r n) := by
      unfold isLet
      rw [List.all_append]
      simp
    rw [ea, Bool.and_eq_true]
    constructor
    · rintro ⟨⟨a, b, _, _, c⟩, d⟩; exact ⟨a, b, c, d⟩
    · rintro ⟨a, b, c, d⟩; exact ⟨⟨a, b, m0, m1, c⟩, d⟩
  · rcases List.mem_append.mp hm with hm | hm
    · rw [el]; exact Int.dvd_mul_of_dvd_left (h.dvd m hm)
    · rw [List.mem_singleton.mp hm]
      exact Int.ofNat_dvd_right.mpr (Nat.dvd_lcm_right _ _)
theorem Rem.len {Ns rs : List Int} {W : Int} (h : Rem Ns rs W) : rs.length ≤ W.toNat :=
   nodup_lt W.toNat rs h.nd fun r hr => by
    have b := (h.mem r).mp hr
    omega
/-- the least harmonic from 2 on -/
structure LeastSh (Ns : List Int) (d : Int) : Prop where
  two : 2 ≤ d
  lets : isLet Ns d = true
  none : ∀ j, 2 ≤ j → j < d → isLet Ns j = false
theorem Rem.ne {Ns rs : List Int} {W : Int} (h : Rem Ns rs W) : 1 % W ∈ rs := by
  have W0 := h.pos
  refine (h.mem _).mpr ⟨Int.emod_nonneg _ (by omega), Int.emod_lt_of_pos _ W0, ?_⟩
  refine List.all_eq_true.mpr fun m hm => ?_
  rw [letB_mod (h.dvd m hm)]
  exact letB_iff.mpr (.inl (Int.dvd_zero _))
end Mt
set_option Elab.async false
set_option linter.all false
set_option maxRecDepth 100000
set_option maxHeartbeats 4000000
namespace Vd
open PySem PySem.Spec PyProof.Rows L2 Mt PySem.W
end Vd
namespace My
open PySem PySem.Spec PyProof.Rows L2 Vd Mt PySem.W
noncomputable abbrev nums (Fs : List Frm) : List Int := Fs.map fun F => numI F.1 F.2.1
abbrev LsF (Fs : List Frm) (d : Int) : Prop := LeastSh (nums Fs) d
theorem LsF.le {Fs Gs : List Frm} (k : ∀ G ∈ Gs, G ∈ Fs) {d e : Int} (h : LsF Fs d) (g : LsF Gs e) : e ≤ d := by
  rcases Int.lt_or_le d e with z | z
  · have y := g.none d h.two z
    have x : isLet (nums Gs) d = true := List.all_eq_true.mpr fun m hm => by
      obtain ⟨G, hG, rfl⟩ := List.mem_map.mp hm
      exact List.all_eq_true.mp h.lets _ (List.mem_map.mpr ⟨G, k G hG, rfl⟩)
    rw [x] at y; cases y
  · exact z
end My
set_option linter.all false
set_option maxRecDepth 100000
/-! lifts of a wave at the four quarters of a turn -/
namespace Mt
abbrev qs (f : Nat → Bool) : List Nat := [0, 1, 2, 3].filter f
end Mt
set_option Elab.async false
set_option linter.all false
set_option maxRecDepth 100000
set_option maxHeartbeats 4000000
namespace Vd
open PySem PySem.Spec PyProof.Rows L2 Mt PySem.W
section
variable {K : Fr} {w : WA} {ρ : Rho} {te ta tb tl tk : TE} {S S2 : PyData → Prop} {R : Rt} {N : Rho → Prop} {tu : TS} {ds : List PyData}
/-- a, b = a list, e -/
theorem run_parLD {i j : Nat} {Ss : List PyData → Prop} (hl : EvL K w tl ρ Ss) (he : EvD K w te ρ S) (k : ∀ ds d, Ss ds → S d → Run K w tu ((ρ.set i (some (.own ds))).set j (some (.d d))) R N) : Run K w (tSeq (tPar i j (tCons tl (tCons te tNil))) tu) ρ R N := fun D σ H0 H E r n => by
  show tl σ H fun x H1 => tCons te tNil σ H1 fun ys H2 => ∃ v u, x :: ys = [v, u] ∧ tu D ((σ.set i (some v)).set j (some u)) H2
  refine hl σ H0 H E _ fun p xs ds H1 g1 s1 n1 h1 t1 => ?_
  show te σ H1 fun y H2 => ∃ v u, [V.ref p, y] = [v, u] ∧ tu D ((σ.set i (some v)).set j (some u)) H2
  refine he σ H0 H1 (E.go g1) _ fun v d H2 g2 s2 t2 => ?_
  have nw : w ≠ some p := nw_of (H' := H) E.wok n1
  exact ⟨.ref p, v, rfl, k ds d s1 s2 D _ H0 H2 (((E.setown (g1.trans g2) n1 (g2.1 p _ nw h1) (t1.go g1.2 g2) i)).setd t2 j) r n⟩
theorem ev_notNT {d : PyData} (ha : EvD K w ta ρ (Is d)) (hd : d = .none ∨ ∃ l, d = .tuple l) : EvD K w (tOp (fun x y H Q => y = .non ∧ Q (.bl (!decide (x = .non))) H) ta (tC .non)) ρ (Is (.bool (!noneB d))) := ev_op ha ev_non fun a' b' ea eb x y H k tx ty Q q => by
  rw [ea] at tx; rw [eb] at ty
  refine ⟨ty.inv_non, q _ _ H (Go.refl k) ?_ (.bl _)⟩
  rcases hd with rfl | ⟨l, rfl⟩
  · rw [tx.inv_non]; rfl
  · obtain ⟨p, xs, rfl, _⟩ := tx.inv_tup
    rfl
end
end Vd
namespace My
open PySem PySem.Spec PyProof.Rows L2 Vd Mt PySem.W
end My
namespace Vd
open PySem PySem.Spec PyProof.Rows L2 Mt PySem.W
end Vd
namespace My
open PySem PySem.Spec PyProof.Rows L2 Vd Mt PySem.W
def hb : Nat → Nat
  | 0 => 1
  | n + 1 => 2 * (hb n + 7) + 1
end My
namespace Vd
open PySem PySem.Spec PyProof.Rows L2
end Vd
namespace My
open PySem PySem.Spec PyProof.Rows L2 Vd Mt PySem.W
end My
set_option Elab.async false
set_option linter.all false
set_option maxRecDepth 100000
set_option maxHeartbeats 4000000
/-! {x for .. in .. if ..}, ints; sorted of a set of ints of any size; isqrt -/
namespace L2
open PySem PySem.Spec PyProof.Rows PpSet
end L2
set_option linter.all false
set_option maxRecDepth 100000
/-! divisors, good numbers -/
namespace Mt
/-- the good numbers of harmonics -/
structure Gd (Hs ns : List Int) : Prop where
  asc : ns.Pairwise (· < ·)
  mem : ∀ d, d ∈ ns ↔ 0 < d ∧ ∀ j ∈ Hs, letB j d = true
/-- harmonics told -/
structure HsOk (Hs : List Int) : Prop where
  len : 1 ≤ Hs.length ∧ Hs.length ≤ 6
  asc : Hs.Pairwise (· < ·)
  lo : ∀ j ∈ Hs, 2 ≤ j
  hi : ∀ j ∈ Hs, j ≤ 1000000
theorem HsOk.head {Hs : List Int} (h : HsOk Hs) : Hs.getD 0 0 ∈ Hs := at_mem (by have := h.len; omega)
theorem Gd.one {Hs ns : List Int} (h : Gd Hs ns) : 1 ∈ ns := (h.mem 1).mpr ⟨by decide, fun j _ => letB_iff.mpr (.inl (Int.one_dvd _))⟩
theorem Gd.bound {Hs ns : List Int} (h : Gd Hs ns) (k : HsOk Hs) {d : Int} (hd : d ∈ ns) : 1 ≤ d ∧ d ≤ Hs.getD 0 0 + 1 := by
  have z := (h.mem d).mp hd
  have l2 := k.lo _ k.head
  refine ⟨by omega, ?_⟩
  rcases letB_iff.mp (z.2 _ k.head) with y | y
  · have := Int.le_of_dvd (by omega) y; omega
  · exact Int.le_of_dvd (by omega) y
theorem Gd.len {Hs ns : List Int} (h : Gd Hs ns) (k : HsOk Hs) : ns.length ≤ (Hs.getD 0 0 + 2).toNat := by
  refine nodup_lt _ ns (h.asc.imp fun h => by omega) fun d hd => ?_
  have := h.bound k hd
  omega
end Mt
set_option Elab.async false
set_option linter.all false
set_option maxRecDepth 100000
set_option maxHeartbeats 4000000
namespace Vd
open PySem PySem.Spec PyProof.Rows L2 Mt PySem.W
end Vd
namespace Vd
open PySem PySem.Spec PyProof.Rows L2 Mt PySem.W
end Vd
set_option Elab.async false
set_option linter.all false
set_option maxRecDepth 100000
set_option maxHeartbeats 4000000
/-! tuple(range(a, b, c)); max of one list; most feet, widest frames -/
namespace Vd
open PySem PySem.Spec PyProof.Rows L2 Mt
end Vd
namespace My
open PySem PySem.Spec PyProof.Rows L2 Vd Mt
end My
namespace Mt
def oddB (Hs : List Int) : Bool := Hs.all fun j => decide (j % 2 = 1)
/-- what most feet are the greatest of -/
def MS (n : Int) (Hs : List Int) (t y : Int) : Prop := y = 1 ∨ (y = 2 ∧ (2 < n ∨ oddB Hs = true)) ∨ (y = 4 ∧ 2 < n ∧ n % 2 = 0 ∧ oddB Hs = true) ∨ (3 ≤ y ∧ y ≤ t ∧ n % y = 0 ∧ ∀ j ∈ Hs, letB j y = true)
def MF (n : Int) (Hs : List Int) (t x : Int) : Prop := MS n Hs t x ∧ ∀ y, MS n Hs t y → y ≤ x
theorem MF.pos {n : Int} {Hs : List Int} {t x : Int} (h : MF n Hs t x) : 1 ≤ x := h.2 1 (.inl rfl)
theorem MS.mono {n : Int} {Hs : List Int} {t u y : Int} (h : MS n Hs t y) (l : t ≤ u) : MS n Hs u y := by
  rcases h with h | h | h | ⟨a, b, c⟩
  · exact .inl h
  · exact .inr (.inl h)
  · exact .inr (.inr (.inl h))
  · exact .inr (.inr (.inr ⟨a, by omega, c⟩))
theorem MF.no {n : Int} {Hs : List Int} {t x : Int} (h : MF n Hs t x) (h1 : ¬ (n % (t + 1) = 0 ∧ ∀ j ∈ Hs, letB j (t + 1) = true)) : MF n Hs (t + 1) x := by
  refine ⟨h.1.mono (by omega), fun y hy => ?_⟩
  rcases hy with k | k | k | ⟨a, b, k⟩
  · exact h.2 y (.inl k)
  · exact h.2 y (.inr (.inl k))
  · exact h.2 y (.inr (.inr (.inl k)))
  · by_cases e : y = t + 1
    · subst e; exact absurd k h1
    · exact h.2 y (.inr (.inr (.inr ⟨a, by omega, k⟩)))
end Mt
namespace My
open PySem PySem.Spec PyProof.Rows L2 Vd Mt
end My
set_option Elab.async false
set_option linter.all false
set_option maxRecDepth 100000
set_option maxHeartbeats 4000000
/-! a dict whose keys are tuples of ints, as a thing of its own kind -/
namespace L2
open PySem PySem.Spec PyProof.Rows
end L2
namespace Vd
open PySem PySem.Spec PyProof.Rows L2 Mt
end Vd
set_option Elab.async false
set_option linter.all false
set_option maxRecDepth 100000
set_option maxHeartbeats 4000000
/-! most feet by trial -/
namespace Mt
open My Vd
def isBad (n : Int) (g : Int → Bool) (k : List Int) : Bool := !g (n / spr n k)
def badL (n : Int) (g : Int → Bool) : List (List Int) := (kn n (rgI 0 1 n.toNat)).filter (isBad n g)
def cJoin (bad : List Int → Bool) (s : List Int) (m : Int) : Bool := (List.range s.length).all fun k => !bad [s.getD k 0, m] && (s.drop (k + 1)).all fun e => !bad [s.getD k 0, e, m]
def lotS (bad : List Int → Bool) (t : Nat) (l : List (List Int)) : List (List Int) := l ++ (l.filter fun s => cJoin bad s (1 + (t : Int))).map fun s => s ++ [1 + (t : Int)]
def lots (bad : List Int → Bool) : Nat → List (List Int)
  | 0 => [[0]]
  | t + 1 => lotS bad t (lots bad t)
def topL (L : List (List Int)) : Nat := (L.map List.length).foldl max 0
def inB (L : List (List Int)) (k : List Int) : Bool := decide (k ∈ L)
def gOf (a b c : Int) (x y z : Bool) (d : Int) : Bool := if d = a then x else if d = b then y else if d = c then z else true
def FL (n : Int) (g : Int → Bool) : List Nat := ([1] : List Nat) ++ (if 2 < n ∨ g 2 = true then [2] else []) ++ (if 2 < n ∧ n % 2 = 0 ∧ g 2 = true then [4] else []) ++ ((List.range 11).filter fun d : Nat => decide (3 ≤ d) && (decide (n % (d : Int) = 0) && g (d : Int)))
def TrB (n : Int) (g : Int → Bool) : Bool := topL (lots (inB (badL n g)) (n.toNat - 1)) == (FL n g).foldl max 0
theorem t2 : ∀ x : Bool, TrB 2 (gOf 2 0 0 x true true) = true := by decide +kernel
theorem t3 : ∀ x : Bool, TrB 3 (gOf 3 0 0 x true true) = true := by decide +kernel
theorem t4 : ∀ x y : Bool, (y = true → x = true) → TrB 4 (gOf 2 4 0 x y true) = true := by decide +kernel
theorem t8 : ∀ x y z : Bool, (z = true → y = true) → (y = true → x = true) → TrB 8 (gOf 2 4 8 x y z) = true := by decide +kernel
end Mt
namespace Vd
open PySem PySem.Spec PyProof.Rows L2 Mt
end Vd
set_option Elab.async false
set_option linter.all false
set_option maxRecDepth 100000
set_option maxHeartbeats 4000000
/-! data of any kind: lists and dicts that no more change -/
namespace L2
open PySem PySem.Spec PyProof.Rows
/-- a new thing is from now on not changed -/
def tFrz (te : TE) : TE := fun σ H Q => te σ H fun v H1 => ∃ a u, v = .ref a ∧ H1 a = some u ∧ Mut (some u) ∧ ∀ o, Q v (upd H1 a (.frz o u))
theorem pe_frz {X : Cx} {e : Expr} {te : TE} (h : PE X e te) : PE X e (tFrz te) := ⟨fun pins s σ H Q I q => by
  refine thn (h.run pins s σ H _ I q) fun v s1 ⟨x, H1, I1, r, a, u, ex, hu, mu, q1⟩ => ?_
  obtain ⟨od, J⟩ := I1.lock hu mu
  exact ⟨x, _, J, r, q1 od⟩⟩
end L2
namespace Vd
open PySem PySem.Spec PyProof.Rows L2 Mt
end Vd
namespace L2
open PySem PySem.Spec PyProof.Rows
end L2
namespace Vd
open PySem PySem.Spec PyProof.Rows L2 Mt
end Vd
namespace Vd
open PySem PySem.Spec PyProof.Rows L2 Mt
instance : Inhabited PyData := ⟨.none⟩
def isFr (d : PyData) : Bool := match d with
  | .tuple [.int n, .int m] => My.isF n m
  | _ => false
end Vd
namespace Vd
open PySem PySem.Spec PyProof.Rows L2 Mt
def num (d : PyData) : Int := match d with
  | .int i => i
  | _ => 0
end Vd
set_option Elab.async false
set_option linter.all false
set_option maxRecDepth 100000
set_option maxHeartbeats 4000000
/-! data of any kind, small -/
namespace Vd
open PySem PySem.Spec PyProof.Rows L2 Mt
mutual
def smB (b l : Nat) : PyData → Bool
  | .int i => decide (i.natAbs < 2 ^ b)
  | .list ds => decide (ds.length ≤ l) && smA b l ds
  | .tuple ds => decide (ds.length ≤ l) && smA b l ds
  | .none => true
  | .bool _ => true
  | .str _ => true
  | .dict _ => true
def smA (b l : Nat) : List PyData → Bool
  | [] => true
  | d :: ds => smB b l d && smA b l ds
end
theorem smA_iff {b l : Nat} : ∀ {ds : List PyData}, smA b l ds = true ↔ ∀ d ∈ ds, smB b l d = true
  | [] => ⟨fun _ _ h => (nomatch h), fun _ => rfl⟩
  | d :: ds => by
    rw [smA, Bool.and_eq_true, smA_iff (ds := ds)]
    constructor
    · rintro ⟨h1, h2⟩ x hx
      rcases List.mem_cons.mp hx with rfl | hx
      · exact h1
      · exact h2 x hx
    · intro h
      exact ⟨h d List.mem_cons_self, fun x hx => h x (List.mem_cons_of_mem _ hx)⟩
theorem dep_iff {n : Nat} : ∀ {ds : List PyData}, PyData.depthAll ds ≤ n ↔ ∀ d ∈ ds, d.depth ≤ n
  | [] => ⟨fun _ _ h => (nomatch h), fun _ => Nat.zero_le _⟩
  | d :: ds => by
    rw [PyData.depthAll, Nat.max_le, dep_iff (ds := ds)]
    constructor
    · rintro ⟨h1, h2⟩ x hx
      rcases List.mem_cons.mp hx with rfl | hx
      · exact h1
      · exact h2 x hx
    · intro h
      exact ⟨h d List.mem_cons_self, fun x hx => h x (List.mem_cons_of_mem _ hx)⟩
mutual
theorem smB_mono {b l b' l' : Nat} (hb : b ≤ b') (hl : l ≤ l') : ∀ d : PyData, smB b l d = true → smB b' l' d = true
  | .int i, h => by
    rw [smB, decide_eq_true_iff] at h ⊢
    exact Nat.lt_of_lt_of_le h (Nat.pow_le_pow_right (by decide) hb)
  | .list ds, h => by
    rw [smB, Bool.and_eq_true, decide_eq_true_iff] at h ⊢
    exact ⟨Nat.le_trans h.1 hl, smA_mono hb hl ds h.2⟩
  | .tuple ds, h => by
    rw [smB, Bool.and_eq_true, decide_eq_true_iff] at h ⊢
    exact ⟨Nat.le_trans h.1 hl, smA_mono hb hl ds h.2⟩
  | .none, _ => rfl
  | .bool _, _ => rfl
  | .str _, _ => rfl
  | .dict _, _ => rfl
theorem smA_mono {b l b' l' : Nat} (hb : b ≤ b') (hl : l ≤ l') : ∀ ds : List PyData, smA b l ds = true → smA b' l' ds = true
  | [], _ => rfl
  | d :: ds, h => by
    rw [smA, Bool.and_eq_true] at h ⊢
    exact ⟨smB_mono hb hl d h.1, smA_mono hb hl ds h.2⟩
end
/-- small data: ints below 2^b, sequences up to l long, n deep -/
structure SmP (b l n : Nat) (d : PyData) : Prop where
  sm : smB b l d = true
  dep : d.depth ≤ n
theorem SmP.mono {b l n b' l' n' : Nat} {d : PyData} (h : SmP b l n d) (hb : b ≤ b') (hl : l ≤ l') (hn : n ≤ n') : SmP b' l' n' d := ⟨smB_mono hb hl d h.sm, Nat.le_trans h.dep hn⟩
theorem SmP.tup {b l n : Nat} {ds : List PyData} : SmP b l (n + 1) (.tuple ds) ↔ ds.length ≤ l ∧ ∀ d ∈ ds, SmP b l n d := by
  constructor
  · rintro ⟨h1, h2⟩
    rw [smB, Bool.and_eq_true, decide_eq_true_iff, smA_iff] at h1
    rw [PyData.depth] at h2
    have h3 := dep_iff.mp (show PyData.depthAll ds ≤ n by omega)
    exact ⟨h1.1, fun d hd => ⟨h1.2 d hd, h3 d hd⟩⟩
  · rintro ⟨h1, h2⟩
    refine ⟨?_, ?_⟩
    · rw [smB, Bool.and_eq_true, decide_eq_true_iff, smA_iff]
      exact ⟨h1, fun d hd => (h2 d hd).sm⟩
    · rw [PyData.depth]
      have := dep_iff.mpr fun d hd => (h2 d hd).dep
      omega
theorem SmP.lst {b l n : Nat} {ds : List PyData} (h1 : ds.length ≤ l) (h2 : ∀ d ∈ ds, SmP b l n d) : SmP b l (n + 1) (.list ds) := by
  refine ⟨?_, ?_⟩
  · rw [smB, Bool.and_eq_true, decide_eq_true_iff, smA_iff]
    exact ⟨h1, fun d hd => (h2 d hd).sm⟩
  · rw [PyData.depth]
    have := dep_iff.mpr fun d hd => (h2 d hd).dep
    omega
theorem tup_deep {b l n : Nat} {ds : List PyData} (h : SmP b l n (.tuple ds)) : 1 ≤ n := by
  have := h.dep
  rw [PyData.depth] at this
  omega
end Vd
namespace Vd
open PySem PySem.Spec PyProof.Rows L2 Mt
section
variable {K : Fr} {w : WA} {ρ : Rho} {te : TE} {tu : TS} {R : Rt} {N : Rho → Prop} {ds : List PyData}
theorem run_setLD {i : Nat} (h : EvL K w te ρ (Is ds)) (k : Run K w tu (ρ.set i (some (.own ds))) R N) : Run K w (tSeq (tAsg te (gName i)) tu) ρ R N := run_setL h fun es e => by
  cases (show es = ds from e)
  exact k
end
end Vd
namespace Vd
open PySem PySem.Spec PyProof.Rows L2 Mt
end Vd
namespace Vd
open PySem PySem.Spec PyProof.Rows L2 Mt
end Vd
namespace Vd
open PySem PySem.Spec PyProof.Rows L2 Mt
end Vd
namespace Vd
open PySem PySem.Spec PyProof.Rows L2 Mt
end Vd
namespace Vd
open PySem PySem.Spec PyProof.Rows L2 Mt
end Vd
namespace Vd
open PySem PySem.Spec PyProof.Rows L2 Mt
end Vd
namespace My
open PySem PySem.Spec PyProof.Rows L2 Vd Mt
end My
set_option Elab.async false
set_option linter.all false
set_option maxRecDepth 100000
set_option maxHeartbeats 4000000
/-! whether data is a wave -/
namespace Vd
open PySem PySem.Spec PyProof.Rows L2 Mt
def isPr (d : PyData) : Bool := match d with
  | .tuple [a, b] => isFr a && isFr b
  | _ => false
def lstD (ps : List PyData) : PyData := ps.getD (ps.length - 1) .none
def blankD : PyData := .tuple [.tuple [.int 0, .int 1], .tuple [.int 0, .int 1]]
def isWv (d : PyData) : Bool := match d with
  | .tuple [a, .tuple ps] => isFr a && (decide (ps.length ≤ 8) && (ps.all isPr && (decide (ps.length = 0) || !PyData.eqv (lstD ps) blankD)))
  | _ => false
end Vd
namespace My
open PySem PySem.Spec PyProof.Rows L2 Vd Mt
end My
set_option Elab.async false
set_option linter.all false
set_option maxRecDepth 100000
set_option maxHeartbeats 4000000
/-! a tuple times one, or more -/
namespace L2
open PySem PySem.Spec PyProof.Rows
end L2
namespace Vd
open PySem PySem.Spec PyProof.Rows L2 Mt
end Vd
set_option Elab.async false
set_option linter.all false
set_option maxRecDepth 100000
set_option maxHeartbeats 4000000
set_option exponentiation.threshold 10000
/-! a power of a great number; whether data is a turn -/
namespace L2
open PySem PySem.Spec PyProof.Rows
end L2
namespace Mt
end Mt
namespace Vd
open PySem PySem.Spec PyProof.Rows L2 Mt
def isTn (d : PyData) : Bool := match d with
  | .tuple [.tuple [.int a, .int m], .tuple [.int b, .int k]] => (My.isF a m && My.isF b k) && (decide (m = k) && decide (a * a + b * b = m * m))
  | _ => false
end Vd
namespace Vd
open PySem PySem.Spec PyProof.Rows L2 Mt
end Vd
namespace My
open PySem PySem.Spec PyProof.Rows L2 Vd Mt
end My
namespace My
open PySem PySem.Spec PyProof.Rows L2 Vd Mt
end My
set_option Elab.async false
set_option linter.all false
set_option maxRecDepth 100000
set_option maxHeartbeats 4000000
/-! own exception classes that keep one field: any name; made, raised, the field read -/
namespace PySem
namespace OwnG
open PySem.W PySem.Calls PyProof.Rows PySem.HandSPX
def iA (p1 p2 : Pos) : Arguments := { posonlyargs := [], args := [{ arg := "self", annotation := none, pos := p1 }, { arg := "given", annotation := none, pos := p2 }], vararg := none, kwonlyargs := [], kw_defaults := [], kwarg := none, defaults := [] }
def iB (q1 q2 q3 q4 : Pos) : List Stmt := [.Assign [.Attribute (.Name "self" q1) "given" q2] (.Name "given" q3) q4]
def iS : Scope := { kind := .function, names := [(PySem.Str.ofString "self", .local), (PySem.Str.ofString "given", .local)], isGenerator := false, isCoroutine := false, more := [] }
structure LTxt (cn qn : Str) (K : Frag) (mg : Str → Option Value) (C fI : Addr) : Prop where
  gC : mg cn = some (.ref C)
  cls : ∃ nm q N bs bm sn sub ab col dd k0 k1 k2 k3 k5, K.lookup C = some (excClassObj nm q C N bs bm true sn sub ab col dd k0 k1 k2 k3 k5 "ValueError.__new__") ∧ refsVE bm = true
  sa : findIn K (.ref C) "__setattr__" = some (some (.builtin "object.__setattr__"))
  ga : findIn K (.ref C) "__getattribute__" = some (some (.builtin "BaseException.__getattribute__"))
  gg : findIn K (.ref C) "__getattr__" = some none
  noN : findIn K (.ref C) "given" = some none
  iC : findIn K (.ref C) "__init__" = some (some (.ref fI))
  tC : typeIn K (.ref fI) = some (.type "function")
  kC : keepIn K (.ref C) = true
  exC : subIn K (.ref C) (.type "BaseException") = some true
  tyC : typeIn K (.ref C) = some (.type "type")
  hdC : hasDictIn K C = true
  te : exmOne K (.ref C) (.ref C) = some true
  fn : ∃ (oc : Value) (od : Option Addr) (doc pm : Value) (an : Option Addr) (cdv ct : Value) (osl : Array (Option Value)) (p1 p2 q1 q2 q3 q4 : Pos),
    K.lookup fI = some ⟨oc, od, .func (fnOf "__init__" qn (iA p1 p2) (iB q1 q2 q3 q4) iS .none .none doc pm an cdv ct), osl⟩ ∧ codeIn K cdv qn = true
end OwnG
end PySem
namespace L2
end L2
namespace PySem
namespace OwnI
open PySem.W PySem.Calls PyProof.Rows PySem.HandSPX
def iA (p1 p2 : Pos) : Arguments := { posonlyargs := [], args := [{ arg := "self", annotation := none, pos := p1 }, { arg := "index", annotation := none, pos := p2 }], vararg := none, kwonlyargs := [], kw_defaults := [], kwarg := none, defaults := [] }
def iB (q1 q2 q3 q4 : Pos) : List Stmt := [.Assign [.Attribute (.Name "self" q1) "index" q2] (.Name "index" q3) q4]
def iS : Scope := { kind := .function, names := [(PySem.Str.ofString "self", .local), (PySem.Str.ofString "index", .local)], isGenerator := false, isCoroutine := false, more := [] }
structure LTxt (cn qn : Str) (K : Frag) (mg : Str → Option Value) (C fI : Addr) : Prop where
  gC : mg cn = some (.ref C)
  cls : ∃ nm q N bs bm sn sub ab col dd k0 k1 k2 k3 k5, K.lookup C = some (excClassObj nm q C N bs bm true sn sub ab col dd k0 k1 k2 k3 k5 "ValueError.__new__") ∧ refsVE bm = true
  sa : findIn K (.ref C) "__setattr__" = some (some (.builtin "object.__setattr__"))
  ga : findIn K (.ref C) "__getattribute__" = some (some (.builtin "BaseException.__getattribute__"))
  gg : findIn K (.ref C) "__getattr__" = some none
  noN : findIn K (.ref C) "index" = some none
  iC : findIn K (.ref C) "__init__" = some (some (.ref fI))
  tC : typeIn K (.ref fI) = some (.type "function")
  kC : keepIn K (.ref C) = true
  exC : subIn K (.ref C) (.type "BaseException") = some true
  tyC : typeIn K (.ref C) = some (.type "type")
  hdC : hasDictIn K C = true
  te : exmOne K (.ref C) (.ref C) = some true
  fn : ∃ (oc : Value) (od : Option Addr) (doc pm : Value) (an : Option Addr) (cdv ct : Value) (osl : Array (Option Value)) (p1 p2 q1 q2 q3 q4 : Pos),
    K.lookup fI = some ⟨oc, od, .func (fnOf "__init__" qn (iA p1 p2) (iB q1 q2 q3 q4) iS .none .none doc pm an cdv ct), osl⟩ ∧ codeIn K cdv qn = true
end OwnI
end PySem
namespace L2
end L2
set_option Elab.async false
set_option linter.all false
set_option maxRecDepth 100000
set_option maxHeartbeats 4000000
set_option exponentiation.threshold 10000
/-! list.count of flat items; isinstance of a caught error that keeps a field; repr of data of any kind -/
namespace L2
open PySem PySem.Spec PyProof.Rows
end L2
namespace Vd
open PySem PySem.Spec PyProof.Rows L2 Mt
/-! ### repr of data of any kind -/
section
variable {X : Cx} {pins : List (Addr × Obj)} {σ : L2.St} {H : Hp} {s : Shared}
theorem dic_reads : ∀ {kvs : List (Key × V)} {es : List (PyData × PyData)} {vs : List (Key × Value)} {ds : List DictEntry}, DicD kvs es → KV kvs vs → PySem.Pairs (mixKind X.prog X.w) ds vs →
    ReadsAll s.heap (ds.map (·.key)) (es.map (·.1)) [] ∧ ReadsAll s.heap (ds.map (·.val)) (es.map (·.2)) []
  | _, _, _, _, .nil, .nil, .nil => ⟨.nil, .nil⟩
  | _, _, _, _, .cons (k := k) h, .cons ⟨e1, r1⟩ t, .cons hk hv p => by
    obtain ⟨h1, h2⟩ := dic_reads h t p
    obtain ⟨tk, ev⟩ := r1
    dsimp only at e1
    refine ⟨?_, ?_⟩
    · rcases keyIs_shape hk with ⟨i, t', ek, ed⟩ | ⟨x, t', ek, ed⟩
      · have z : k = .inl i := e1.trans ek
        rw [List.map_cons, List.map_cons, ed, z]
        exact ReadsAll.cons (.int i t') h1
      · have z : k = .inr x := e1.trans ek
        rw [List.map_cons, List.map_cons, ed, z]
        exact ReadsAll.cons (.str x t') h1
    · rw [List.map_cons, List.map_cons, hv, ev]
      exact ReadsAll.cons (.int _ tk) h2
end
/-- no mark within -/
def isMark : List (PyData × PyData) → Bool
  | [(.none, .int i)] => i == bigI
  | _ => false
mutual
def zf : PyData → Bool
  | .none | .bool _ | .int _ | .str _ => true
  | .list ds | .tuple ds => zfAll ds
  | .dict es => !isMark es
def zfAll : List PyData → Bool
  | [] => true
  | d :: ds => zf d && zfAll ds
end
theorem zf_mk : zf mk = false := by simp [mk, zf, isMark]
theorem sh_big : PyData.showable (.int bigI) = false := by
  rw [PyData.showable]
  exact decide_eq_false (by decide +kernel)
mutual
theorem sh_zf : ∀ d : PyData, d.showable = true → zf d = true
  | .none, _ => rfl
  | .bool _, _ => rfl
  | .int _, _ => rfl
  | .str _, _ => rfl
  | .list ds, h => by rw [zf]; exact sh_zfAll ds (by rw [PyData.showable] at h; exact h)
  | .tuple ds, h => by rw [zf]; exact sh_zfAll ds (by rw [PyData.showable] at h; exact h)
  | .dict es, h => by
    rw [zf]
    cases e : isMark es with
    | false => rfl
    | true =>
      unfold isMark at e
      split at e
      · rename_i i
        rw [beq_iff_eq] at e
        subst e
        rw [PyData.showable, PyData.showableKv, sh_big] at h
        simp at h
      · cases e
theorem sh_zfAll : ∀ ds : List PyData, PyData.showableAll ds = true → zfAll ds = true
  | [], _ => rfl
  | d :: ds, h => by
    rw [PyData.showableAll, Bool.and_eq_true] at h
    rw [zfAll, sh_zf d h.1, sh_zfAll ds h.2]
    rfl
end
section
variable {X : Cx} {pins : List (Addr × Obj)} {σ : L2.St} {H : Hp} {s : Shared}
mutual
theorem Tp.reads (I : Inv X pins σ H s) : ∀ (d : PyData) (v : V) (u : Value), zf d = true → Tp X.K H v d → RelV v u → ∃ as, Reads s.heap u d as ∧ sysModules ∉ as
  | .none, _, _, _, h, r => by cases h; cases r; exact ⟨_, Reads.none, by simp⟩
  | .bool b, _, _, _, h, r => by cases h; cases r; exact ⟨_, Reads.bool b, by simp⟩
  | .int i, _, _, _, h, r => by cases h; obtain ⟨t, rfl⟩ := r; exact ⟨_, Reads.int i t, by simp⟩
  | .str x, _, _, _, h, r => by cases h; obtain ⟨t, rfl⟩ := r; exact ⟨_, Reads.str x t, by simp⟩
  | .list ds, _, _, z, h, r => by
    cases h with
    | @lst a o xs _ hs hn ha =>
      cases (show _ = Value.ref a from r)
      obtain ⟨_, _, its, n, rv, h1⟩ := (show ObjOk X.prog X.w H s.heap a (.frz o (.lst xs)) from I.hok a _ hs)
      obtain ⟨as, ra, na⟩ := TpAll.reads I ds xs its (by rw [zf] at z; exact z) ha rv
      refine ⟨a :: as, Reads.list h1 rfl rfl (by simpa using ra), fun hm => ?_⟩
      rcases List.mem_cons.mp hm with e | e
      · rw [e] at hn
        exact absurd hn (by simp)
      · exact na e
    | lz hs ha => rw [zf, zfAll, zf_mk] at z; cases z
  | .tuple ds, _, _, z, h, r => by
    cases h with
    | @tup a xs _ hs ha =>
      cases (show _ = Value.ref a from r)
      obtain ⟨its, rv, ⟨o, ho, hc, n, hd⟩, _⟩ := I.tuple hs
      obtain ⟨as, ra, na⟩ := TpAll.reads I ds xs its (by rw [zf] at z; exact z) ha rv
      exact ⟨as, Reads.tuple ho hc hd (by simpa using ra), na⟩
  | .dict es, _, _, _, h, r => by
    cases h with
    | @dic a o kvs _ hs hd =>
      cases (show _ = Value.ref a from r)
      obtain ⟨_, hn, vs, kv, ob, des, ep, ho, ex, hdat, _, pr, _⟩ := dk_rd I.hok (show Rd H a (.dK kvs) from .inr ⟨o, hs⟩)
      obtain ⟨h1, h2⟩ := dic_reads (s := s) hd kv pr
      refine ⟨a :: [] ++ [], Reads.dict ho ex.1 hdat h1 h2, fun hm => ?_⟩
      rcases List.mem_cons.mp hm with e | e
      · rw [e] at hn
        exact absurd hn (by simp)
      · cases e
theorem TpAll.reads (I : Inv X pins σ H s)   : ∀ (ds : List PyData) (vs : List V) (us : List Value), zfAll ds = true → TpAll X.K H vs ds → Vals vs us → ∃ as, ReadsAll s.heap us ds as ∧ sysModules ∉ as
  | [], _, _, _, h, r => by cases h; cases r; exact ⟨[], .nil, by simp⟩
  | d :: ds, _, _, z, h, r => by
    cases h with
    | cons h1 h2 =>
      cases r with
      | cons r1 r2 =>
        obtain ⟨as, ra, na⟩ := Tp.reads I d _ _ (by rw [zfAll, Bool.and_eq_true] at z; exact z.1) h1 r1
        obtain ⟨bs, rb, nb⟩ := TpAll.reads I ds _ _ (by rw [zfAll, Bool.and_eq_true] at z; exact z.2) h2 r2
        exact ⟨as ++ bs, .cons ra rb, fun hm => (List.mem_append.mp hm).elim na nb⟩
end
end
def rReprA (K : Fr) : List V → Hp → VK → Prop := fun xs H Q => ∃ v d, xs = [v] ∧ Tp K H v d ∧ d.showable = true ∧ d.depth ≤ 30 ∧ d.shown.length ≤ sizeLine ∧ Q (.str d.shown) H
theorem cr_reprA {X : Cx} {K : Fr} (eK : X.K = K) (hgu : X.A.guards = some []) (hu : X.A.units + 65 < cLine) : CallR X (.builtin "repr") (rReprA K) := by
  subst eK
  intro pins s σ H xs us Q I r h
  obtain ⟨v, d, rfl, hd, sh, dd, sz, q⟩ := h
  obtain ⟨u, rfl, ru⟩ := vals1 r
  obtain ⟨as, rd, na⟩ := Tp.reads I d v u (sh_zf d sh) hd ru
  have heap : ∀ {a : Addr}, u = .ref a → wpAny (model X.prog X.w) X.A (call (.builtin "repr") [u]) (EP X pins σ Q) X.xe s := fun {a} e => by
    subst e
    refine PySem.repr_of_reads' rd sh (fun _ => na) hgu (by omega) (fun _ _ z => z) (fun h' u tk kk => ?_) sz
    exact ⟨.str d.shown, H, I.kept kk, ⟨_, rfl⟩, q⟩
  cases hd with
  | non => cases ru; exact PySem.P.repr_of_none ⟨.str (PyData.shown .none), H, I.tok _, ⟨_, rfl⟩, q⟩
  | bl b => cases ru; exact PySem.P.repr_of_bool ⟨.str (PyData.shown (.bool b)), H, I.tok _, ⟨_, by cases b <;> rfl⟩, q⟩
  | int i => obtain ⟨t, rfl⟩ := ru; exact PySem.P.repr_of_int (of_decide_eq_true sh) ⟨.str (PyData.shown (.int i)), H, I.tok _, ⟨_, rfl⟩, q⟩
  | str x => obtain ⟨t, rfl⟩ := ru; exact PySem.P.repr_of_str ⟨.str (PyData.shown (.str x)), H, I.tok _, ⟨_, rfl⟩, q⟩ sz
  | tup hs ha => exact heap ru
  | lst hs hn ha => exact heap ru
  | lz hs ha => exact heap ru
  | dic hs hd => exact heap ru
theorem ev_reprA {K : Fr} {w : WA} {ρ : Rho} {te : TE} {d : PyData} (h : EvD K w te ρ (Is d)) (sh : d.showable = true) (dd : d.depth ≤ 30) (sz : d.shown.length ≤ 10000000) : EvD K w (tCB (rReprA K) (tCons te tNil)) ρ (Is (.str d.shown)) := fun σ H0 H E Q q =>
  h σ H0 H E _ fun v d' H1 g s t => by
    cases (show d' = d from s)
    exact ⟨v, d, rfl, t, sh, dd, Nat.le_trans sz (by rw [sizeLine_eq]; decide), q _ _ H1 g rfl (.str _)⟩
end Vd
set_option Elab.async false
set_option linter.all false
set_option maxRecDepth 100000
set_option maxHeartbeats 4000000
/-! sorted(a tuple, key=a lambda) -/
namespace Sk
open PySem PySem.W PySem.Calls PyProof.Rows
section
variable {prog : Program} {w : World} {A : Around} {E : Value → Shared → Prop} {s : Shared}
/-- a tuple's items, by way of a new list -/
theorem gather_tup {t : Addr} {its : List Value} {Q : List Value → Shared → Prop} (ht : IsTup s.heap t its.toArray) (fits : its.length ≤ sizeLine)
    (go : Q its { s with heap := (s.heap.push (seqObj "list" #[] 0)).update s.heap.objs.size (Obj.mapSeq (· ++ its.toArray)) }) : wpAny (model prog w) A (collect (.ref t)) Q E s := by
  obtain ⟨ob, at_t, isT, m, dat⟩ := ht
  have top : (s.heap.push (seqObj "list" #[] 0)).get? s.heap.objs.size = some (seqObj "list" #[] 0) := Heap.get?_push_size _ rfl
  have at_t' : (s.heap.push (seqObj "list" #[] 0)).get? t = some ob := Heap.get?_push_of_some _ at_t
  have fits' : (#[] ++ its.toArray).size ≤ sizeLine + 1 := by
    rw [Array.size_append, List.size_toArray]
    exact Nat.le_succ_of_le (by simpa using fits)
  have same : ((#[] : Array Value) ++ its.toArray).toList = its := by simp
  have part : ∀ A : Around, wpAny (model prog w) A (Builtin.List.listExtendWith (.ref s.heap.objs.size) (.ref t) (.ref s.heap.objs.size)) (fun f s' => f = .done (.ret (.ref s.heap.objs.size)) ∧ s' = { s with heap := (s.heap.push (seqObj "list" #[] 0)).update s.heap.objs.size (Obj.mapSeq (· ++ its.toArray)) }) (fun _ _ => False) { s with heap := s.heap.push (seqObj "list" #[] 0) } := by
    intro A
    unfold Builtin.List.listExtendWith
    refine wpAny_bind (wpAny_typeOf (T := "tuple") ⟨ob, at_t', isT⟩ ?_)
    rw [if_pos (by rw [show (Value.type "tuple" == Value.type "tuple") = true from rfl]; simp)]
    refine wpAny_bind (listItems_at at_t' dat (wpAny_bind (listItems_at (xs := #[]) (n := 0) top rfl ?_)))
    rw [if_neg (by simp)]
    exact wpAny_bind (listUpdate_at (xs := #[]) (n := 0) top rfl (wpAny_pure ⟨rfl, rfl⟩) (Nat.zero_le _) fits')
  have q1 : ∀ c : Code, c = .builtin "list.__iadd__" ⟨[.ref s.heap.objs.size, .ref t], []⟩ → c.quiet := fun c e => by subst e; exact Code.quiet_builtin _ (by decide +kernel)
  unfold collect
  apply wpAny_bind
  apply wpAny_runValue
  apply codeAny_builtin entry_proto_collect'
  show wpAny _ _ (newList [] >>= fun l => again (.builtin "list.__iadd__" ⟨[l, .ref t], []⟩)) _ _ s
  refine wpAny_bind (wpAny_newList (wpAny_pure ⟨Code.quiet_builtin _ (by decide +kernel), codeAny_builtin entry_list_iadd' (wpAny_mono (part _) (fun f s' z => ?_) fun _ _ z => z.elim)⟩))
  obtain ⟨rfl, rfl⟩ := z
  show wpAny _ _ (load s.heap.objs.size >>= fun o => match o.data with
    | .seq xs _ => pure xs.toList
    | _ => unsupported "internal:collect") Q E _
  refine wpAny_bind (wpAny_load (get?_update_seq top _) ?_)
  show wpAny _ _ (pure ((#[] : Array Value) ++ its.toArray).toList) Q E _
  rw [same]
  exact wpAny_pure go
/-- sorted(t, ..) is list.sort(..) of a new list of the tuple's items -/
theorem sorted_tup {t : Addr} {its : List Value} {kw : List (Str × Value)} {Q : Value → Shared → Prop} (ht : IsTup s.heap t its.toArray) (fits : its.length ≤ sizeLine) (ok1 : argsOk "sorted" ⟨[.ref t], kw⟩) (ok2 : ∀ l, argsOk "list.sort" ⟨[.ref l], kw⟩)
    (sorts : ∀ E' : Value → Shared → Prop, wpAny (model prog w) A.in1.in1 (Builtin.«list.sort» ⟨[.ref (s.heap.objs.size + 1)], kw⟩) (fun f s' => f = .done (.ret .none) ∧ Q (.ref (s.heap.objs.size + 1)) s') E' { s with heap := copyHeap s.heap its }) :
    wpAny (model prog w) A (call (.builtin "sorted") [.ref t] kw) Q E s := by
  have two : ((s.heap.push (seqObj "list" #[] 0)).update s.heap.objs.size (Obj.mapSeq (· ++ its.toArray))).objs.size = s.heap.objs.size + 1 := (Heap.size_update _ _ _).trans (size_push' _ _)
  have inner : ∀ E' : Value → Shared → Prop, wpAny (model prog w) A.in1 (call (.builtin "list.sort") [.ref (s.heap.objs.size + 1)] kw) (fun _ s' => Q (.ref (s.heap.objs.size + 1)) s') E' { s with heap := copyHeap s.heap its } := fun E' =>
    wpAny_call_entry_kw slot_list_sort ⟨_, copyHeap_at s.heap its, rfl⟩ entry_list_sort (wpAny_mono (sorts _) (fun f s' z => by
      obtain ⟨rfl, q⟩ := z
      exact ⟨_, rfl, q⟩) fun _ _ z => z) (ok2 _)
  refine call_function_entry_kw kind_sorted plain_sorted entry_sorted ok1 ?_
  unfold Builtin.«sorted»
  apply wpAny_bind (m := checkCount "sorted" 1 1 _)
  apply wpAny_pure
  refine wpAny_bind (gather_tup ht fits (wpAny_bind (wpAny_newList ?_ fits)))
  rw [show (({ s with heap := (s.heap.push (seqObj "list" #[] 0)).update s.heap.objs.size (Obj.mapSeq (· ++ its.toArray)) } : Shared)).heap.objs.size = s.heap.objs.size + 1 from two]
  refine wpAny_bind (wpAny_holding (wpAny_mono (inner _) (fun _ s' z => ?_) fun _ _ z => z))
  exact wpAny_pure ⟨_, rfl, z⟩
end
end Sk
namespace Vd
open PySem PySem.Spec PyProof.Rows L2
/-- a key: two ints -/
abbrev keyP (p : Int × Int) : PyData := .tuple [.int p.1, .int p.2]
/-- which of two comes first by their keys -/
def kLe (key : PyData → Int × Int) (p q : PyData) : Bool := decide ((key p).1 < (key q).1 ∨ ((key p).1 = (key q).1 ∧ (key p).2 ≤ (key q).2))
section
variable {X : Cx} {pins : List (Addr × Obj)} {σ : L2.St} {H : Hp} {s : Shared}
/-- an address that the state at s did not know -/
structure Later (X : Cx) (pins : List (Addr × Obj)) (b : Addr) : Prop where
  out : b ∈ X.ex ∨ X.s_0.heap.objs.size ≤ b
  loc : b ≠ X.env.locals
  cell : ∀ x c, X.env.cells.lookup x = some c → c ≠ b
  pin : ∀ p ∈ X.pn ++ pins, p.1 ≠ b
  fs : b ∉ X.fs
theorem later_of (I : Inv X pins σ H s) {b : Addr} (h : s.heap.objs.size ≤ b) : Later X pins b := by
  have lt : ∀ {c : Addr} {o : Obj}, s.heap.get? c = some o → c ≠ b := fun e z => by
    subst z
    exact Nat.lt_irrefl _ (Nat.lt_of_lt_of_le (Heap.lt_size e) h)
  refine ⟨.inr (Nat.le_trans I.sz h), fun z => ?_, fun x c e => ?_, fun p hp => lt (I.pin p hp).1, I.nofs h⟩
  · rw [z] at h
    exact Nat.lt_irrefl _ (Nat.lt_of_lt_of_le I.lt h)
  · obtain ⟨v, o, e1, _⟩ := I.cell x c e
    exact lt e1
/-- one key more is stored -/
theorem Inv.push1 {kS : Addr} {ob : Obj} {f : Obj → Obj} {o' : Obj} (I : Inv X ((kS, ob) :: pins) σ H s) (L : Later X pins kS) (hk : H kS = none) (ho : (s.heap.update kS f).get? kS = some o') (nc : ∀ v, o'.data ≠ .cell v) :
    Inv X ((kS, o') :: pins) σ H { s with heap := s.heap.update kS f } := by
  have sm := Heap.SameBut.update s.heap kS f
  have J : Inv X pins σ H s := I.pins_of fun p hp => I.pin p (List.mem_append_right _ (List.mem_cons_of_mem _ hp))
  have J2 : Inv X pins σ H { s with heap := s.heap.update kS f } := J.turned (t' := s.toks) (it := kS) (fun b o n e => (sm.2 b n).trans e) hk L.loc L.out L.cell L.pin
  refine J2.pins_of fun p hp => ?_
  rcases List.mem_cons.mp hp with rfl | hp
  · exact ⟨ho, hk, L.loc, L.fs, nc⟩
  · exact J2.pin p (List.mem_append_right _ hp)
/-- the keys of the items, one after the other -/
theorem keys_each {kS a f : Addr} {fo : Obj} {e1 : Nat} {its : List Value} {xs : List V} {L : List PyData} (key : PyData → Int × Int) {A : Around} {E : Value → Shared → Prop} {R : PUnit → Shared → Prop} {st : Shared}
    (lk : Later X ((a, seqObj "list" #[] e1) :: (f, fo) :: pins) kS) (rv : Vals xs its) (tp : TpAll X.K H xs L) (fits : L.length ≤ sizeLine)
    (I0 : Inv X ((kS, seqObj "list" #[] 0) :: (a, seqObj "list" #[] e1) :: (f, fo) :: pins) σ H st)
    (turn : ∀ (H' : Hp) (s' : Shared) (x : V) (u : Value) (d : PyData), Inv X pins σ H' s' → Kx H H' → s'.heap.get? f = some fo → d ∈ L → RelV x u → Tp X.K H' x d →
      wpAny (model X.prog X.w) A (call (.ref f) [u]) (fun r s'' => CE X.stack X.prog X.w H' s' (fun v H'' => Kx H' H'' ∧ Tp X.K H'' v (keyP (key d))) r s'') (fun _ _ => False) s')
    (body : Value → PUnit → Sem (ForInStep PUnit)) (hb : ∀ (x : Value) (z : PUnit) (P : ForInStep PUnit → Shared → Prop) (E' : Value → Shared → Prop) (s' : Shared),
      wpAny (model X.prog X.w) A (call (.ref f) [x]) (fun k s'' => wpAny (model X.prog X.w) A (Builtin.List.listUpdate (.ref kS) (·.push k)) (fun _ s3 => P (.yield ⟨⟩) s3) E' s'') (fun _ _ => False) s' → wpAny (model X.prog X.w) A (body x z) P E' s')
    (go : ∀ (H' : Hp) (s' : Shared) (kA : Array Value) (e : Nat) (kv : List V), Inv X ((kS, seqObj "list" kA e) :: (a, seqObj "list" #[] e1) :: (f, fo) :: pins) σ H' s' → Kx H H' → Vals kv kA.toList → TpAll X.K H' kv (L.map fun d => keyP (key d)) → R ⟨⟩ s') :
    wpAny (model X.prog X.w) A (forIn its PUnit.unit body) R E st := by
  have n1 : xs.length = its.length := rv.length
  have n2 : xs.length = L.length := tp.length
  refine ksk_fold (fun i s' => ∃ (H' : Hp) (kA : Array Value) (e : Nat) (kv : List V), Inv X ((kS, seqObj "list" kA e) :: (a, seqObj "list" #[] e1) :: (f, fo) :: pins) σ H' s' ∧ Kx H H' ∧ Vals kv kA.toList ∧ TpAll X.K H' kv ((L.take i).map fun d => keyP (key d))) its 0 st
    ⟨H, #[], 0, [], I0, Kp.refl _ _, .nil, by rw [List.take_zero]; exact .nil⟩ ?_ ?_
  · rintro j u s' hu ⟨H', kA, e, kv, J, ex, rk, tk⟩
    rw [Nat.zero_add] at tk ⊢
    have hj : j < its.length := (List.getElem?_eq_some_iff.mp hu).1
    have hx : xs[j]? = some xs[j] := List.getElem?_eq_getElem (by omega)
    have hd : L[j]? = some L[j] := List.getElem?_eq_getElem (by omega)
    obtain ⟨u', hu', ru⟩ := rv.get hx
    rw [hu] at hu'
    cases hu'
    obtain ⟨v', hv', td⟩ := tp.get hd
    rw [hx] at hv'
    cases hv'
    have td' : Tp X.K H' xs[j] L[j] := td.go Wok.none (Go.ex Wok.none ex)
    have Jp : Inv X pins σ H' s' := J.pins_of fun p hp => J.pin p (List.mem_append_right _ (List.mem_cons_of_mem _ (List.mem_cons_of_mem _ (List.mem_cons_of_mem _ hp))))
    have Jf := (J.pin (f, fo) (by simp)).1
    refine hb u ⟨⟩ _ _ s' (wpAny_mono (turn H' s' xs[j] u L[j] Jp ex Jf (List.getElem_mem _) ru td') (fun r s'' ce => ?_) fun _ _ z => z)
    obtain ⟨v, H'', J2, rr, ex2, tv⟩ := J.after ce
    have hk := J2.pin (kS, seqObj "list" kA e) (by simp)
    have hz : kA.size ≤ j := by
      have l1 := rk.length
      have l2 := tk.length
      rw [List.length_map, List.length_take] at l2
      have l3 : kA.toList.length = kA.size := Array.length_toList
      have l4 := Nat.min_le_left j L.length
      have l5 : kA.size = min j L.length := by rw [← l3, ← l1, l2]
      rw [l5]; exact l4
    obtain ⟨c2, hc2⟩ : ∃ c2, (s''.heap.update kS (Obj.mapSeq (·.push r))).get? kS = some (seqObj "list" (kA.push r) c2) := ⟨_, get?_update_seq hk.1 (·.push r)⟩
    refine listUpdate_at hk.1 rfl ⟨rfl, H'', kA.push r, c2, kv ++ [v], Inv.push1 J2 lk hk.2.1 hc2 (fun v z => (by cases z)), ex.trans ex2, ?_, ?_⟩ (by omega) (by rw [Array.size_push]; omega)
    · rw [show (kA.push r).toList = kA.toList ++ [r] by simp]
      exact rk.append (.cons rr .nil)
    · rw [List.take_add_one, hd, List.map_append]
      exact (tk.go Wok.none (Go.ex Wok.none ex2)).append (.cons tv .nil)
  · rintro s' ⟨H', kA, e, kv, J, ex, rk, tk⟩
    rw [List.take_of_length_le (by omega)] at tk
    exact go H' s' kA e kv J ex rk tk
theorem items_each {K : Fr} {R : Value → PyData → Prop} (h : ∀ x u d, RelV x u → Tp K H x d → R u d) : ∀ {xs : List V} {us : List Value} {ds : List PyData}, Vals xs us → TpAll K H xs ds → PySem.W.EachIs R us ds
  | _, _, _, .nil, t => by cases t; exact .nil
  | _, _, _, .cons r rs, t => by
    cases t with
    | cons t1 t2 => exact .cons (h _ _ _ r t1) (items_each h rs t2)
theorem items_eachM {K : Fr} {R : Value → PyData → Prop} : ∀ {xs : List V} {us : List Value} {ds : List PyData}, (∀ x u d, d ∈ ds → RelV x u → Tp K H x d → R u d) → Vals xs us → TpAll K H xs ds → PySem.W.EachIs R us ds
  | _, _, _, _, .nil, t => by cases t; exact .nil
  | _, _, _, h, .cons r rs, t => by
    cases t with
    | cons t1 t2 => exact .cons (h _ _ _ List.mem_cons_self r t1) (items_eachM (fun x u d m => h x u d (List.mem_cons_of_mem _ m)) rs t2)
theorem items_back {K : Fr} : ∀ {us : List Value} {ds : List PyData}, PySem.W.EachIs (fun u d => ∃ x, RelV x u ∧ Tp K H x d) us ds → ∃ xs, Vals xs us ∧ TpAll K H xs ds
  | _, _, .nil => ⟨[], .nil, .nil⟩
  | _, _, .cons ⟨x, r, t⟩ e => by
    obtain ⟨xs, rs, ts⟩ := items_back e
    exact ⟨x :: xs, .cons r rs, .cons t ts⟩
/-- the list is put in order, and known from now on -/
theorem keys_end {kS a f : Addr} {fo : Obj} {e e1 : Nat} {kA : Array Value} {its : List Value} {xs kv : List V} {L : List PyData} (key : PyData → Int × Int) {A : Around} {E : Value → Shared → Prop} {Q : VK}
    (I : Inv X ((kS, seqObj "list" kA e) :: (a, seqObj "list" #[] e1) :: (f, fo) :: pins) σ H s) (lk : Later X pins kS) (la : Later X pins a) (hka : kS ≠ a) (hu : A.units + 2 < cLine) (rv : Vals xs its) (tp : TpAll X.K H xs L) (rk : Vals kv kA.toList) (tk : TpAll X.K H kv (L.map fun d => keyP (key d)))
    (fits : L.length ≤ sizeLine) (done : ∀ zs : List V, TpAll X.K H zs (L.mergeSort (kLe key)) → H a = none → Q (.ref a) (upd H a (.lst zs))) :
    wpAny (model X.prog X.w) A (ksk_end a false its.toArray e1 (.ref kS) kA) (fun fin s' => fin = .done (.ret .none) ∧ EP X pins σ Q (.ref a) s') E s := by
  have n1 : xs.length = its.length := rv.length
  have n2 : xs.length = L.length := tp.length
  have n3 : kv.length = kA.toList.length := rk.length
  have n4 := tk.length
  rw [List.length_map] at n4
  have n5 : kA.toList.length = kA.size := Array.length_toList
  have n6 : kA.size = its.length := by rw [← n5, ← n3, n4, ← n2, n1]
  have n7 : its.length ≤ sizeLine := by rw [← n1, n2]; exact fits
  obtain ⟨nk, hk, _⟩ := I.pin (kS, seqObj "list" kA e) (by simp)
  obtain ⟨na, ha, _⟩ := I.pin (a, seqObj "list" #[] e1) (by simp)
  have J : Inv X pins σ H s := I.pins_of fun p hp => I.pin p (List.mem_append_right _ (List.mem_cons_of_mem _ (List.mem_cons_of_mem _ (List.mem_cons_of_mem _ hp))))
  obtain ⟨G, g1, g2⟩ := restrict s.heap fun b => !decide (b = kS)
  have up : ∀ {h' : Heap}, PySem.W.KeepsBut a G h' → ∀ b o, b ≠ a → b ≠ kS → s.heap.get? b = some o → h'.get? b = some o := fun {h'} kp b o z1 z2 e => kp b o z1 ((g1 b (by simp [z2])).trans e)
  have kp : PySem.W.KeepsBut a G s.heap := fun b o _ e => by
    by_cases z : b = kS
    · rw [g2 b (by simp [z])] at e
      cases e
    · exact (g1 b (by simp [z])).symm.trans e
  have ek : PySem.W.EachIs (fun v k => ∃ as, Reads s.heap v k as) kA.toList (L.map fun d => keyP (key d)) := items_eachM (fun x u d m r t => by
    obtain ⟨d0, _, e0⟩ := List.mem_map.mp m
    obtain ⟨as, q, _⟩ := Tp.reads J d x u (by rw [← e0]; simp [keyP, zf, zfAll]) t r
    exact ⟨as, q⟩) rk tk
  have hal : PySem.W.AllAlike (L.map fun d => keyP (key d)) := PySem.W.AllAlike.of fun _ _ => by simp [PySem.W.alike, PySem.W.alikeAll]
  have hsk : PySem.W.Sortable (L.map fun d => keyP (key d)) := PySem.W.Sortable.tuples fun _ => ⟨_, _, rfl⟩
  have hdep : ∀ d, d ∈ (L.map fun d => keyP (key d)) → A.units + d.depth < cLine := fun d hd => by
    obtain ⟨d0, _, rfl⟩ := List.mem_map.mp hd
    have : (keyP (key d0)).depth = 1 := by simp [PyData.depth, PyData.depthAll]
    omega
  have S : PySem.W.SortsAt X.prog X.w A s (PySem.W.dataKind s.heap (L.map fun d => keyP (key d))) kA.toList := PySem.W.SortsAt.data ek hal hsk hdep
  refine PySem.W.keyH_end (κ := PySem.W.dataKind s.heap (L.map fun d => keyP (key d))) (h₁ := G) kp (g2 kS (by simp)) nk na hka S n6 n7 fun h' tk' c k3 n3 => ⟨rfl, ?_⟩
  have ko : PySem.W.KeyedOut false (L.map fun d => keyP (key d)) its (PySem.W.sortVals (PySem.W.dataKind s.heap (L.map fun d => keyP (key d))) false kA.toList its) := ⟨s.heap, kA.toList, hal, rfl, ek⟩
  have eo := PySem.W.keyedOut_each (R := fun u d => ∃ x, RelV x u ∧ Tp X.K H x d) (fun d => keyP (key d)) ko (items_each (fun x u d r t => ⟨x, r, t⟩) rv tp)
  obtain ⟨zs, rz, tz⟩ := items_back eo
  rw [show PySem.W.dataLe false (fun d => keyP (key d)) = kLe key from PySem.W.dataLe_ii (β := PyData) (fun d => (key d).1) (fun d => (key d).2)] at tz
  have kp' := up k3
  have hz : zs.length ≤ sizeLine := by
    have := tz.length
    rw [List.length_mergeSort] at this
    omega
  refine ⟨.ref a, upd H a (.lst zs), ?_, rfl, done zs tz ha⟩
  refine J.step (g' := s.gens) (d' := s.drawn) (ch := [a, kS]) (fun b hb => ?_) (fun b o _ _ hc e n => kp' b o (fun z => hc (by simp [z])) (fun z => hc (by simp [z])) e) (fun b o _ _ hc e n => ⟨o.slots, kp' b o (fun z => hc (by simp [z])) (fun z => hc (by simp [z])) e⟩)
    (fun b o hc e n => by rw [upd_ne (fun z => hc (by simp [z]))]; exact n) (fun b o hc e => ⟨o, kp' b o (fun z => hc (by simp [z])) (fun z => hc (by simp [z])) e⟩) (fun b ys e => by rw [upd_ne (ne_of_none e ha)]; exact e) (fun b o u e => by rw [upd_ne (ne_of_none e ha)]; exact e)
    (fun b ps e => ⟨#[], by rw [upd_ne (ne_of_none e ha), e]; simp⟩) (fun m hm => ?_) (fun b u e => ?_) J.bare
  · rcases List.mem_cons.mp hb with rfl | hb
    · exact ⟨la.out, la.loc, la.cell, la.pin⟩
    · rw [List.mem_singleton] at hb
      subst hb
      exact ⟨lk.out, lk.loc, lk.cell, lk.pin⟩
  · obtain ⟨o, es, ep, ho, r⟩ := hm
    exact ⟨o, es, ep, kp' _ o (Ne.symm la.loc) (Ne.symm lk.loc) ho, r⟩
  · by_cases q : b = a
    · subst q
      rw [upd_same] at e
      cases e
      exact ⟨hz, _, c, rz, n3⟩
    · rw [upd_ne q] at e
      refine (J.hok b u e).stay (fun c' v hc z => kp' c' v (fun y => ?_) (fun y => ?_) z) (fun d z => by rw [upd_ne (ne_of_none z ha)]; exact z) fun d ys z => by rw [upd_ne (ne_of_none z ha)]; exact z
      · rcases hc with y2 | y2
        · exact q (y2.symm.trans y)
        · rw [y, ha] at y2
          cases y2
      · rcases hc with y2 | y2
        · rw [← y2, y, hk] at e
          cases e
        · rw [y, hk] at y2
          cases y2
/-- sorted(t, key=f), t a tuple of data, f a thing whose calls give a key of two ints -/
theorem sort_keys {t f : Addr} {fo : Obj} {its : List Value} {xs : List V} {L : List PyData} (key : PyData → Int × Int) {Q : VK} (I : Inv X pins σ H s) (hr : Room 3 X.A) (ht : IsTup s.heap t its.toArray) (rv : Vals xs its) (tp : TpAll X.K H xs L) (fits : L.length ≤ sizeLine)
    (hf : s.heap.get? f = some fo) (nf : H f = none) (floc : f ≠ X.env.locals) (ffs : f ∉ X.fs) (fnc : ∀ v, fo.data ≠ .cell v)
    (turn : ∀ (H' : Hp) (s' : Shared) (x : V) (u : Value) (d : PyData), Inv X pins σ H' s' → Kx H H' → s'.heap.get? f = some fo → d ∈ L → RelV x u → Tp X.K H' x d →
      wpAny (model X.prog X.w) X.A.in1.in1 (call (.ref f) [u]) (fun r s'' => CE X.stack X.prog X.w H' s' (fun v H'' => Kx H' H'' ∧ Tp X.K H'' v (keyP (key d))) r s'') (fun _ _ => False) s')
    (done : ∀ (p : Addr) (zs : List V) (H' : Hp), Kx H H' → H p = none → H' p = none → TpAll X.K H' zs (L.mergeSort (kLe key)) → Q (.ref p) (upd H' p (.lst zs))) :
    wpAny (model X.prog X.w) X.A (call (.builtin "sorted") [.ref t] [(Str.ofString "key", .ref f)]) (EP X pins σ Q) X.xe s := by
  have fitv : its.length ≤ sizeLine := by
    rw [← rv.length, tp.length]
    exact fits
  have fita : its.toArray.size ≤ sizeLine := by
    rw [List.size_toArray]
    exact fitv
  refine Sk.sorted_tup ht fitv (ksk_s1 _ _) (fun _ => ksk_l1 _ _) fun E' => ?_
  rw [ksk_t1]
  have at_a := PySem.W.copyHeap_at s.heap its
  have la0 : s.heap.objs.size ≤ s.heap.objs.size + 1 := Nat.le_succ _
  generalize s.heap.objs.size + 1 = a at *
  obtain ⟨e1, em⟩ : ∃ e1, ((PySem.W.copyHeap s.heap its).update a (Obj.mapSeq fun _ => (#[] : Array Value))).get? a = some (seqObj "list" #[] e1) := ⟨_, get?_update_seq at_a fun _ => #[]⟩
  have la : Later X pins a := later_of I la0
  have grown : ((PySem.W.copyHeap s.heap its).update a (Obj.mapSeq fun _ => (#[] : Array Value))).objs.size ≤ (((PySem.W.copyHeap s.heap its).update a (Obj.mapSeq fun _ => (#[] : Array Value))).push (seqObj "tuple" its.toArray 0)).objs.size := by
    rw [size_push']
    exact Nat.le_succ _
  have lt_a := Heap.lt_size em
  have all : ∀ b o, s.heap.get? b = some o → ((((PySem.W.copyHeap s.heap its).update a (Obj.mapSeq fun _ => (#[] : Array Value))).push (seqObj "tuple" its.toArray 0)).push (seqObj "list" #[] 0)).get? b = some o := fun b o q => by
    have nb : b ≠ a := fun z => by
      subst z
      exact Nat.lt_irrefl _ (Nat.lt_of_lt_of_le (Heap.lt_size q) la0)
    exact Heap.get?_push_of_some _ (Heap.get?_push_of_some _ ((Heap.get?_update_ne _ _ _ _ nb).trans (PySem.W.copyHeap_old q)))
  have mine : ∀ b o, s.heap.get? b = some o → b < ((PySem.W.copyHeap s.heap its).update a (Obj.mapSeq fun _ => (#[] : Array Value))).objs.size := fun b o q => by
    have nb : b ≠ a := fun z => by
      subst z
      exact Nat.lt_irrefl _ (Nat.lt_of_lt_of_le (Heap.lt_size q) la0)
    exact Heap.lt_size ((Heap.get?_update_ne _ _ _ _ nb).trans (PySem.W.copyHeap_old q))
  unfold ksk_tree
  refine wpAny_bind (listItems_at at_a rfl (wpAny_bind (listUpdate_at at_a rfl ?_ fita (Nat.zero_le _))))
  refine wpAny_bind (seqEpoch_at em rfl (wpAny_bind (wpAny_newTuple ?_ fitv)))
  refine wpAny_bind (wpAny_newList (wpAny_holding ?_) (Nat.zero_le _))
  show wpAny _ _ _ _ _ { s with heap := (((PySem.W.copyHeap s.heap its).update a (Obj.mapSeq fun _ => (#[] : Array Value))).push (seqObj "tuple" its.toArray 0)).push (seqObj "list" #[] 0) }
  show wpAny (model X.prog X.w) X.A.in1.in1 (ksk_rest a (.ref f) false its.toArray e1 (.ref (((PySem.W.copyHeap s.heap its).update a (Obj.mapSeq fun _ => (#[] : Array Value))).push (seqObj "tuple" its.toArray 0)).objs.size)) _ _ _
  have at_k : ((((PySem.W.copyHeap s.heap its).update a (Obj.mapSeq fun _ => (#[] : Array Value))).push (seqObj "tuple" its.toArray 0)).push (seqObj "list" #[] 0)).get? (((PySem.W.copyHeap s.heap its).update a (Obj.mapSeq fun _ => (#[] : Array Value))).push (seqObj "tuple" its.toArray 0)).objs.size = some (seqObj "list" #[] 0) := Heap.get?_push_size _ rfl
  have at_a3 : ((((PySem.W.copyHeap s.heap its).update a (Obj.mapSeq fun _ => (#[] : Array Value))).push (seqObj "tuple" its.toArray 0)).push (seqObj "list" #[] 0)).get? a = some (seqObj "list" #[] e1) := Heap.get?_push_of_some _ (Heap.get?_push_of_some _ em)
  have a_lt : a < (((PySem.W.copyHeap s.heap its).update a (Obj.mapSeq fun _ => (#[] : Array Value))).push (seqObj "tuple" its.toArray 0)).objs.size := Nat.lt_of_lt_of_le lt_a grown
  have f_lt : f < (((PySem.W.copyHeap s.heap its).update a (Obj.mapSeq fun _ => (#[] : Array Value))).push (seqObj "tuple" its.toArray 0)).objs.size := Nat.lt_of_lt_of_le (mine f fo hf) grown
  generalize (((PySem.W.copyHeap s.heap its).update a (Obj.mapSeq fun _ => (#[] : Array Value))).push (seqObj "tuple" its.toArray 0)).push (seqObj "list" #[] 0) = h3 at *
  generalize (((PySem.W.copyHeap s.heap its).update a (Obj.mapSeq fun _ => (#[] : Array Value))).push (seqObj "tuple" its.toArray 0)).objs.size = kS at *
  have lk0 : s.heap.objs.size ≤ kS := Nat.le_of_lt (Nat.lt_of_le_of_lt la0 a_lt)
  have lk : Later X pins kS := later_of I lk0
  have hka : kS ≠ a := Nat.ne_of_gt a_lt
  have hkf : f ≠ kS := Nat.ne_of_lt f_lt
  have hH : H kS = none := I.hok.fresh lk0
  have hA : H a = none := I.hok.fresh la0
  have I3 : Inv X pins σ H { s with heap := h3 } := I.kept (t' := s.toks) all
  have I0 : Inv X ((kS, seqObj "list" #[] 0) :: (a, seqObj "list" #[] e1) :: (f, fo) :: pins) σ H { s with heap := h3 } := I3.pins_of fun p hp => by
    rcases List.mem_cons.mp hp with rfl | hp
    · exact ⟨at_k, hH, lk.loc, lk.fs, fun v z => (by cases z)⟩
    · rcases List.mem_cons.mp hp with rfl | hp
      · exact ⟨at_a3, hA, la.loc, la.fs, fun v z => (by cases z)⟩
      · rcases List.mem_cons.mp hp with rfl | hp
        · exact ⟨all _ _ hf, nf, floc, ffs, fnc⟩
        · exact I3.pin p (List.mem_append_right _ hp)
  have lk' : Later X ((a, seqObj "list" #[] e1) :: (f, fo) :: pins) kS := ⟨lk.out, lk.loc, lk.cell, fun p hp => by
    rcases List.mem_append.mp hp with hp | hp
    · exact lk.pin p (List.mem_append_left _ hp)
    · rcases List.mem_cons.mp hp with rfl | hp
      · exact Ne.symm hka
      · rcases List.mem_cons.mp hp with rfl | hp
        · exact hkf
        · exact lk.pin p (List.mem_append_right _ hp), lk.fs⟩
  have hu : X.A.in1.in1.units + 2 < cLine := by
    have := hr.un
    show X.A.units + 1 + 1 + 2 < cLine
    omega
  unfold ksk_rest
  refine wpAny_bind (wpAny_rule ?_)
  first
    | rw [List.forIn_toArray]
    | (rw [← Array.forIn_toList]; simp only [List.toList_toArray])
  refine wpAny_bind (keys_each key lk' rv tp fits I0 turn _ (fun x z P E'' s' h => wpAny_bind (wpAny_attempt (wpAny_mono h (fun v s'' q => wpAny_bind (wpAny_mono q (fun _ s3 z => wpAny_pure z) fun _ _ z => z)) fun _ _ z => z.elim))) fun H' s' kA e kv J ex rk tk => ?_)
  obtain ⟨nk, hk, _⟩ := J.pin (kS, seqObj "list" kA e) (by simp)
  refine wpAny_bind (listItems_at nk rfl ?_)
  have J' := J
  refine keys_end key J lk la hka hu rv (tp.go Wok.none (Go.ex Wok.none ex)) rk tk fits fun zs tz nz => done a zs H' ex hA nz tz
end
end Vd
set_option Elab.async false
set_option linter.all false
set_option maxRecDepth 100000
set_option maxHeartbeats 4000000
/-! a lambda that sorts: made, called -/
namespace Vd
open PySem PySem.Spec PyProof.Rows L2
section
variable {X : Cx} {pins : List (Addr × Obj)} {σ : L2.St} {H : Hp} {s : Shared}
theorem code_no {c : Addr} {q : Str} (ps : Array Value) : LamX.CodeO c q ≠ .tbl ps := fun z => by
  unfold LamX.CodeO at z
  cases z
/-- a table tells one code object more -/
theorem tb_grow {P c : Addr} {ps : Array Value} {pos : Pos} (hP : H P = some (.tbl ps)) (nC : H c = none) (t : TbQ H P) : Kx H (upd (upd H P (.tbl (ps ++ #[rawInt pos.line, rawInt pos.col, .ref c]))) c (LamX.CodeO c lamQ)) ∧ TbQ (upd (upd H P (.tbl (ps ++ #[rawInt pos.line, rawInt pos.col, .ref c]))) c (LamX.CodeO c lamQ)) P := by
  have nPc : P ≠ c := ne_of_none hP nC
  have keep : ∀ b o, (∀ qs, o ≠ HO.tbl qs) → H b = some o → upd (upd H P (.tbl (ps ++ #[rawInt pos.line, rawInt pos.col, .ref c]))) c (LamX.CodeO c lamQ) b = some o := fun b o n e => by
    rw [upd_ne (ne_of_none e nC), upd_ne (fun z => by rw [z, hP] at e; exact n ps (Option.some.inj e).symm)]
    exact e
  have own : TbQ (upd (upd H P (.tbl (ps ++ #[rawInt pos.line, rawInt pos.col, .ref c]))) c (LamX.CodeO c lamQ)) P := by
    obtain ⟨ps', h1, h2, h3⟩ := t
    rw [hP] at h1
    cases h1
    have eL : (ps ++ #[rawInt pos.line, rawInt pos.col, .ref c]).toList = ps.toList ++ [rawInt pos.line, rawInt pos.col, .ref c] := by simp
    refine ⟨_, by rw [upd_ne nPc, upd_same], by rw [eL]; exact PySem.TriplesOk_snoc _ _ _ _ h2, fun p' cv hc => ?_⟩
    rw [eL] at hc
    rcases LamX.among_app _ h2 hc with z | z
    · obtain ⟨c0, e1, e2⟩ := h3 p' cv z
      exact ⟨c0, e1, keep _ _ (fun qs => code_no qs) e2⟩
    · exact ⟨c, z, upd_same⟩
  refine ⟨⟨fun a o _ e => ?_, fun P' t' => ?_⟩, own⟩
  · by_cases q : a = P
    · subst q
      rw [hP] at e
      cases e
      exact .inr ⟨ps, _, rfl, by rw [upd_ne nPc, upd_same]⟩
    · refine .inl ?_
      rw [upd_ne (ne_of_none e nC), upd_ne q]
      exact e
  · by_cases q : P' = P
    · rw [q]
      exact own
    · obtain ⟨ps', h1, h2, h3⟩ := t'
      refine ⟨ps', by rw [upd_ne (ne_of_none h1 nC), upd_ne q]; exact h1, h2, fun p' cv hc => ?_⟩
      obtain ⟨c0, e1, e2⟩ := h3 p' cv hc
      exact ⟨c0, e1, keep _ _ (fun qs => code_no qs) e2⟩
/-- the lambda is made -/
theorem lam_new {c P : Addr} {params : Arguments} {body : Expr} {scope : Scope} {pos : Pos} {E : Value → Shared → Prop} {Q : Value → Shared → Prop} (I : Inv X pins σ H s) (TB : LamX.TabB X.base X.mg c P) (hcode : X.env.code = .ref c)
    (hq : X.env.qual ++ "<lambda>" = lamQ) (t : TbQ H P) (hdef : defaultsOf params X.env = ([], [])) (hfree : ∀ y ∈ scope.names, y.2 = .free → ∃ c, X.env.cells.lookup y.1 = some c)
    (h : ∀ (f c' : Addr) (pm ctv : Value) (H1 : Hp) (s' : Shared), Inv X pins σ H1 s' → Kx H H1 → TbQ H1 P →
      s'.heap.get? f = some (PySem.W.kla_obj "<lambda>" lamQ params body scope (cloFrom X.env.cells scope.names []) pm c' ctv) → H1 f = none → f ∉ X.env.locals :: X.fs → H1 c' = some (LamX.CodeO c' lamQ) → Q (.ref f) s') :
    wpAny (model X.prog X.w) X.A (eval (.Lambda params body scope pos) X.env) Q E s := by
  obtain ⟨ps, hP, ok, among⟩ := id t
  have inB : s.heap.BuiltinsAt X.mg P := TB.bm.keeps I.bk
  have inP : s.heap.get? P = some { cls := .none, data := .fields ps } := I.hok P _ hP
  have off : ∀ f, s.heap.objs.size ≤ f → f ∉ X.env.locals :: X.fs := fun f hf z => by
    rcases List.mem_cons.mp z with e | e
    · have h1 := I.lt
      rw [← e] at h1
      exact Nat.lt_irrefl _ (Nat.lt_of_lt_of_le h1 hf)
    · exact I.nofs hf e
  refine PySem.W.kla_eval hdef ?_
  rw [hq]
  cases found : codeAmong pos ps.toList with
  | some cv =>
    obtain ⟨c', rfl, hco⟩ := among pos cv found
    refine PySem.W.kla_makeFunctionHit (mg := X.mg) (c := c) (P := P) (ps := ps) (closure_ok hfree) I.ok.glob (I.mod.glob.keeps I.bk) hcode (TB.code.keeps I.bk) inP ok found inB fun ctv h' tk hx hsz => ?_
    have I1 : Inv X pins σ H { s with heap := h'.push (PySem.W.kla_obj "<lambda>" lamQ params body scope (cloFrom X.env.cells scope.names []) ((X.mg "__name__").getD .none) c' ctv), toks := tk } := I.kept fun b o e => Heap.get?_push_of_some _ (hx b o e)
    exact h _ c' _ ctv H _ I1 (Kp.refl _ _) t (Heap.get?_push_size _ rfl) (I.hok.fresh hsz) (off _ hsz) hco
  | none =>
    refine PySem.W.kla_makeFunction (mg := X.mg) (c := c) (P := P) (ps := ps) (closure_ok hfree) I.ok.glob (I.mod.glob.keeps I.bk) hcode (TB.code.keeps I.bk) inP ok found TB.gP inB fun c' ctv h' tk hx hge hlt hrec htb => ?_
    obtain ⟨c2, oc, vs, tk2, e2, hoc, hd, hv⟩ := hrec
    cases e2
    have far : s.heap.objs.size ≤ h'.objs.size := Nat.le_trans hge (Nat.le_of_lt hlt)
    have nC : H c' = none := I.hok.fresh hge
    obtain ⟨g1, g2⟩ := tb_grow (pos := pos) hP nC t
    have I1 := LamX.inv_table (t' := tk) (more := #[rawInt pos.line, rawInt pos.col, .ref c']) (h' := h'.push (PySem.W.kla_obj "<lambda>" lamQ params body scope (cloFrom X.env.cells scope.names []) ((X.mg "__name__").getD .none) c' ctv)) I hP
      (fun b o hb e => Heap.get?_push_of_some _ (hx b o hb e)) (Heap.get?_push_of_some _ htb) hge ⟨oc, vs, tk2, Heap.get?_push_of_some _ hoc, hd, hv⟩
    refine h h'.objs.size c' _ ctv _ _ I1 g1 g2 (Heap.get?_push_size _ rfl) ?_ (off _ far) upd_same
    rw [upd_ne (Nat.ne_of_gt hlt), upd_ne (Nat.ne_of_gt (Nat.lt_of_lt_of_le (Heap.lt_size inP) far))]
    exact I.hok.fresh far
end
end Vd
set_option Elab.async false
set_option linter.all false
set_option maxRecDepth 100000
set_option maxHeartbeats 4000000
/-! sorted(t, key=lambda x: body) -/
namespace Vd
open PySem PySem.Spec PyProof.Rows L2 NdefX
/-- the lambda as a function within a def -/
abbrev lamF (scope : Scope) (cl : List (Str × Addr)) (c' : Addr) : NF := ⟨"<lambda>", lamQ, ⟨[], [], none, [], [], none, []⟩, [], scope, cl, c'⟩
/-- what is asked of a sort: the tuple, its items, the keys as the lambda tells them -/
def sortQ (K : Fr) (P : Addr) (tb : TE) (j : Nat) (σ : L2.St) (Q : VK) : V → Hp → Prop := fun v H1 => ∃ (a : Addr) (xs : List V) (L : List PyData) (key : PyData → Int × Int) (w0 : V), v = .ref a ∧ SqT K H1 a xs ∧ TpAll K H1 xs L ∧ L.length ≤ 100000 ∧ TbQ H1 P ∧ σ[j]? = some (some w0) ∧
  (∀ d ∈ L, ∀ H2 x, Kx H1 H2 → Tp K H2 x d → tb [some x, some w0] H2 fun v H3 => Kx H2 H3 ∧ Tp K H3 v (keyP (key d))) ∧
  ∀ p zs H2, Kx H1 H2 → H1 p = none → H2 p = none → TpAll K H2 zs (L.mergeSort (kLe key)) → Q (.ref p) (upd H2 p (.lst zs))
def tSortLam (K : Fr) (P : Addr) (tb : TE) (j : Nat) (te : TE) : TE := fun σ H Q => te σ H (sortQ K P tb j σ Q)
section
variable {X : Cx} {k : Nat}
theorem lam_call {pins : List (Addr × Obj)} {σ : L2.St} {H : Hp} {s : Shared} {f c' : Addr} {pm ctv u : Value} {x w0 : V} {params : Arguments} {body : Expr} {scope : Scope} {N : List Str} {a b : Str} {j : Nat} {tb : TE} {Q : VK} {A : Around}
    (I : Inv X pins σ H s) (S : NScope N [a] [b] scope) (hN : N.length = 2) (cp : Caps X (cloFrom X.env.cells scope.names []) [b] [j]) (hA : A.frames = some X.stack) (hh : A.handled = none) (hr : Room (k + 1) A)
    (hf : s.heap.get? f = some (PySem.W.kla_obj "<lambda>" lamQ params body scope (cloFrom X.env.cells scope.names []) pm c' ctv)) (hc : H c' = some (LamX.CodeO c' lamQ))
    (hbind : ∀ (q : Str) (cl : List (Str × Addr)) (pm cv ctv u : Value), bindArgs (PySem.W.kla_fn "<lambda>" q params body scope cl pm cv ctv) ⟨[u], []⟩ = pure [(a, u)])
    (hj : σ[j]? = some (some w0)) (r : RelV x u)
    (hbody : ∀ (A : Around) (outer : List PySem.Env) (s : Shared) (H : Hp), Room k (A.deeper (envF (lamF scope (cloFrom X.env.cells scope.names []) c') f s.heap.objs.size)) → PE (ncx C8.CX0 X.prog X.w X.K X.mg X.base N (lamF scope (cloFrom X.env.cells scope.names []) c') f A outer s H C8.E0) body tb)
    (ht : tb [some x, some w0] H Q) :
    wpAny (model X.prog X.w) A (call (.ref f) [u]) (fun r s' => CE X.stack X.prog X.w H s Q r s') (fun _ _ => False) s := by
  have e1 : Env0 X.prog X.w X.K X.mg X.base A X.stack s H := ⟨hA, I.env0.mod, I.env0.bs, I.env0.bsz, I.env0.funs, I.env0.frf, I.env0.hok, I.env0.bare⟩
  have rc : codeAny (model X.prog X.w) A (.call (.ref f) ⟨[u], []⟩) (CR C8.CX0 X.stack X.prog X.w H s Q C8.E0) s := by
    refine PySem.W.kla_callFunE hr.depth hf rfl S.co S.gen rfl (codeO_at I.hok hc) ?_
    rw [hbind]
    refine wpAny_pure (wpAny_newFunctionEnv S.nocell (fun ⟨n, _⟩ hy => ?_) (fun h₁ hns hsb => ⟨I.nolimit.fresh _ hsb, ?_⟩) S.kind)
    · rw [List.mem_singleton] at hy
      cases hy
      exact S.par a (by simp)
    show codeAny _ _ (.expr body (envF (lamF scope (cloFrom X.env.cells scope.names []) c') f s.heap.objs.size)) _ _
    have kp : ∀ b o, s.heap.get? b = some o → h₁.get? b = some o := fun b o e => hsb.extBut b o (Nat.ne_of_lt (Heap.lt_size e)) (Heap.get?_push_of_some _ e)
    have J : Inv (ncx C8.CX0 X.prog X.w X.K X.mg X.base N (lamF scope (cloFrom X.env.cells scope.names []) c') f A X.stack s H C8.E0) [] (startF N [x] [some w0]) H { s with heap := h₁, toks := s.toks + 1 } := by
      refine inv_startN (F := lamF scope (cloFrom X.env.cells scope.names []) c') (ps := [a]) (us := [u]) S hh e1 rfl (.cons r .nil) ?_ hns kp
      have C := NdefX.cells_of I cp
      rw [show ([j].map (slotAt σ)) = [some w0] by rw [List.map_singleton, slotAt_of hj]] at C
      exact C
    have e2 : startF N [x] [some w0] = [some x, some w0] := by
      unfold startF
      rw [hN]
      rfl
    rw [e2] at J
    refine PySem.W.kla_codeExpr (wpAny_mono ((hbody A X.stack s H (hr.deeper _)).run [] _ _ H Q J ht) (fun v s' hq => ?_) fun e s' hq => hq)
    obtain ⟨w', H', J', rv, q⟩ := hq
    exact ⟨w', H', J'.os, J'.bare, J'.base, J'.hok, rv, q⟩
  refine wpAny_call (codeAny_mono rc fun r s' hq => ?_)
  cases r with
  | error e => exact (show False from hq).elim
  | ok fl =>
    cases fl with
    | ret u => exact hq
    | next => exact False.elim hq
    | brk => exact False.elim hq
    | cont => exact False.elim hq
/-- sorted(e, key=lambda a: body), the lambda knowing one name more, b -/
theorem pe_sortlam {c P : Addr} {x a b : Str} {e : Expr} {te tb : TE} {params : Arguments} {body : Expr} {scope : Scope} {N : List Str} {j : Nat} {p pos lpos kpos : Pos} (hg : Gl X x) (hm : X.mg x = none) (hv : bootBuiltins x = some (.builtin "sorted")) (ha : PA X [e] (tCons te tNil))
    (TB : LamX.TabB X.base X.mg c P) (hcode : X.env.code = .ref c) (hq : X.env.qual ++ "<lambda>" = lamQ) (hdef : defaultsOf params X.env = ([], [])) (hr : Room (k + 4) X.A) (S : NScope N [a] [b] scope) (hN : N.length = 2)
    (hfree : ∀ y ∈ scope.names, y.2 = .free → X.env.scope.names.lookup y.1 = some .cell ∨ X.env.scope.names.lookup y.1 = some .free) (hfr : (b, NameKind.free) ∈ scope.names) (hj : X.N[j]? = some b)
    (hbind : ∀ (q : Str) (cl : List (Str × Addr)) (pm cv ctv u : Value), bindArgs (PySem.W.kla_fn "<lambda>" q params body scope cl pm cv ctv) ⟨[u], []⟩ = pure [(a, u)])
    (hbody : ∀ (f c' : Addr) (A : Around) (outer : List PySem.Env) (s : Shared) (H : Hp), Room k (A.deeper (envF (lamF scope (cloFrom X.env.cells scope.names []) c') f s.heap.objs.size)) → PE (ncx C8.CX0 X.prog X.w X.K X.mg X.base N (lamF scope (cloFrom X.env.cells scope.names []) c') f A outer s H C8.E0) body tb)
    (hn : x ≠ "__name__" := by decide) (hdb : (x == ("__debug__" : Str)) = false := by decide)
    (hse : backTo pos (starEach [e] X.env) = (false, eval e X.env) :: backTo pos (starEach [] X.env) := by rfl) (hpl : (backTo pos (starEach [e] X.env)).any (·.1) = false := by rfl) :
    PE X (.Call (.Name x p) [e] [⟨some "key", .Lambda params body scope lpos, kpos⟩] pos) (tSortLam X.K P tb j te) := by
  refine ⟨fun pins s σ H Q I h => ?_⟩
  have cp : Caps X (cloFrom X.env.cells scope.names []) [b] [j] := Caps.made I.ok hfree (fun y hy => by rw [List.mem_singleton] at hy; rw [hy]; exact hfr) (by rw [List.map_singleton, hj]; rfl)
  have hasf : ∀ y ∈ scope.names, y.2 = .free → ∃ c, X.env.cells.lookup y.1 = some c := fun y hy e => (hfree y hy e).elim (fun z => I.ok.has _ (.inl z)) fun z => I.ok.has _ (.inr z)
  refine wpAny_Call_Name_kw (ld_blt I hg hm hv ?_ hn hdb)
  refine PyProof.Rows.callWith_kw (thn (ha.run pos pins s σ H (fun vs H1 => match vs with | [v] => sortQ X.K P tb j σ Q v H1 | _ => False) I h) fun us s1 ⟨vs, H1, I1, r1, q1⟩ => ?_) hse hpl rfl rfl
  obtain ⟨v, rfl⟩ : ∃ v, vs = [v] := by
    match vs, q1 with
    | [v], _ => exact ⟨v, rfl⟩
  obtain ⟨ta, xs, L, key, w0, ev, sq, tp, fits, tq, hw, calls, done⟩ := q1
  subst ev
  obtain rfl := Vals.ref1 r1
  show wpAny _ _ (evalAll [(do let v ← eval (.Lambda params body scope lpos) X.env; standAt pos; pure v)]) _ _ s1
  refine wpAny_evalAll_cons (wpAny_bind (lam_new I1 TB hcode hq tq hdef hasf fun f c' pm ctv H2 s2 I2 g2 t2 hf nf off hc => wpAny_bind (wpAny_standAt (wpAny_pure (wpAny_evalAll_nil ?_)))))
  show wpAny _ _ (call (.builtin "sorted") [.ref ta] [(Str.ofString "key", .ref f)]) _ _ s2
  obtain ⟨its, rv, ht, hz⟩ := I2.tuple (sqT_go Wok.none (Go.ex Wok.none g2) sq)
  have hr3 : Room (k + 1) X.A.in1.in1 := ((hr.mono (by omega) : Room (k + 3) X.A)).in1.in1
  refine sort_keys key I2 (hr.mono (by omega)) ht rv (tp.go Wok.none (Go.ex Wok.none g2)) (by rw [sizeLine_eq]; omega) hf nf (fun z => off (by rw [z]; exact List.mem_cons_self ..)) (fun z => off (List.mem_cons_of_mem _ z)) (fun v z => (by cases z)) (fun H' s' y u d J ex hf' hd r t => ?_) fun p zs H3 ex n1 n2 tz => done p zs H3 (g2.trans ex) ?_ n2 tz
  · exact lam_call J S hN cp I.ok.frames hr3.hd hr3 hf' (ex.at_ c' _ (fun z => nomatch z) hc fun qs => code_no qs) hbind hw r (hbody f c') (calls d hd H' y (g2.trans ex) t)
  · cases z : H1 p with
    | none => rfl
    | some o => exact absurd n1 (g2.nn (fun y => nomatch y) z)
end
end Vd
set_option Elab.async false
set_option linter.all false
set_option maxRecDepth 100000
set_option maxHeartbeats 4000000
/-! defs that make a lambda: their promises, their runs -/
namespace Vd
open PySem PySem.Spec PyProof.Rows L2
/-- what is known of data where a good table is -/
def EvDT (K : Fr) (w : WA) (Pt : Addr) (te : TE) (ρ : Rho) (S : PyData → Prop) : Prop :=
  ∀ (σ : L2.St) (H0 : Bs) (H : Hp), TbQ H Pt → Env K w H0 H σ ρ → ∀ Q : VK, (∀ v d H', Go w H H' → S d → Tp K H' v d → Q v H') → te σ H Q
section
variable {K : Fr} {w : WA} {Pt : Addr} {ρ : Rho} {te ta tb : TE} {S : PyData → Prop} {R : Rt} {N N1 : Rho → Prop} {ts tu : TS} {d : PyData}
/-- tuple(sorted(t, key=lambda x: body)) -/
theorem ev_sortLam {L : List PyData} {j : Nat} {sh : Int} (key : PyData → Int × Int) (h : EvD K w te ρ (Is (.tuple L))) (hj : ρ[j]? = some (some (.d (.int sh)))) (fits : L.length ≤ 100000)
    (calls : ∀ d ∈ L, EvD K none tb [some (.d d), some (.d (.int sh))] (Is (keyP (key d)))) : EvDT K w Pt (tCB (fun xs H Q => ∃ p ys, xs = [V.ref p] ∧ ((SqL K H p ys ∧ ∀ l, H l = none → Q (.ref l) (upd H l (.tup ys))) ∨ (SqT K H p ys ∧ Q (.ref p) H))) (tCons (tSortLam K Pt tb j te) tNil)) ρ (Is (.tuple (L.mergeSort (kLe key)))) := by
  have hl : EvL K w (fun σ H Q => TbQ H Pt → tSortLam K Pt tb j te σ H Q) ρ (Is (L.mergeSort (kLe key))) := fun σ H0 H E Q q tq => h σ H0 H E _ fun v d H1 g s t => by
    cases (show d = _ from s)
    obtain ⟨a, xs, rfl, sq, al⟩ := t.inv_tup
    obtain ⟨w0, hs, tw⟩ := (E.go g).gd hj
    refine ⟨a, xs, L, key, w0, rfl, sq, al, fits, g.1.tab Pt tq, hs, fun d hd H2 x ex tx => ?_, fun p zs H2 ex n1 n2 tz => ?_⟩
    · have e2 : Env K none ⟨H2, [], [], [], []⟩ H2 [some x, some w0] [some (.d d), some (.d (.int sh))] := env_start (N := ["a", "b"]) (fun P z => ex.tab P (g.1.tab P (E.tq P z))) (vs := [x, w0]) (ds := [d, .int sh]) (.cons tx (.cons (tw.go Wok.none (Go.ex Wok.none ex)) .nil))
      exact calls d hd _ _ _ e2 _ fun v d' H3 g3 s3 t3 => ⟨g3.toEx, by rw [show d' = _ from s3] at t3; exact t3⟩
    · have gx := Go.ex g.2 ex
      have gn := Go.new (o := .lst zs) gx.2 n2
      exact q p zs _ _ ((g.trans gx).trans gn) rfl (fresh_go g.2 g.1 n1) upd_same (tz.go gx.2 gn)
  exact fun σ H0 H tq E Q q => ev_tupOf (te := fun σ H Q => TbQ H Pt → tSortLam K Pt tb j te σ H Q) hl σ H0 H E Q q tq
/-- .. where it is the one table -/
theorem ev_sortLamQ (hP : tabOf K = some Pt) {L : List PyData} {j : Nat} {sh : Int} (key : PyData → Int × Int) (h : EvD K w te ρ (Is (.tuple L))) (hj : ρ[j]? = some (some (.d (.int sh)))) (fits : L.length ≤ 100000)
    (calls : ∀ d ∈ L, EvD K none tb [some (.d d), some (.d (.int sh))] (Is (keyP (key d)))) : EvD K w (tCB (fun xs H Q => ∃ p ys, xs = [V.ref p] ∧ ((SqL K H p ys ∧ ∀ l, H l = none → Q (.ref l) (upd H l (.tup ys))) ∨ (SqT K H p ys ∧ Q (.ref p) H))) (tCons (tSortLam K Pt tb j te) tNil)) ρ (Is (.tuple (L.mergeSort (kLe key)))) := fun σ H0 H E Q q =>
  ev_sortLam key h hj fits calls σ H0 H (E.tq Pt hP) E Q q
end
end Vd
set_option Elab.async false
set_option linter.all false
set_option maxRecDepth 100000
set_option maxHeartbeats 4000000
/-! the def that makes the lambda; the law's own call, with that def's table -/
namespace Vd
open PySem PySem.Spec PyProof.Rows L2
section
variable {P : Program} {w : World} {K : Fr} {mg : Str → Option Value} {base : Heap}
/-- a def whose code object is known -/
theorem Fun.okT {x qual : Str} {st : Stmt} {f c : Addr} {fd : FuncData} {N ps : List Str} {k : Nat} {sp : Sp} (F : Fun K x qual st f fd) (hc : fd.code = .ref c) (S : FnScope N ps (defScope st))
    (ln : ∀ vs H Q E, sp vs H Q E → vs.length = ps.length)
    (body : ∀ (cdv : Value) (B : Around) (out : List PySem.Env) (s : Shared) (H : Hp) (vs : List V) (Q : VK) (E : XK), cdv = .ref c → Room k (B.deeper (envOfC qual (defScope st) s.heap.objs.size f cdv)) → sp vs H Q E →
      ∃ t, PSs (cxOf CX0 P w K mg base N qual (defScope st) f cdv B out s H E) (defBody st) t ∧ t { nx := fun _ H' => Q .non H', rt := Q } (start N vs) H) : FnOk P w K mg base CX0 (k + 1) f fd ps sp := by
  obtain ⟨oc, od, kV, doc, pm, an, cdv, ct, osl, rfl, lk, hcd⟩ := F.ex
  have hv : cdv = .ref c := hc
  refine ⟨ln, fun B out s H args us vs Q E room e0 bnd rel hs => ?_⟩
  have inK : K.In s.heap := e0.mod.kin.keeps fun b o z => (e0.bs b o z).1
  have nol : s.heap.NoLimit := e0.mod.nolimit.keeps fun b o z => (e0.bs b o z).1
  refine codeAny_call_function room.depth (inK _ _ lk) rfl S.co S.gen rfl (PySem.W.codeRec_of inK hcd) (bnd _ _ _ _ ?_)
  refine wpAny_newFunctionEnv_cells S.kind (fun y hy => (S.par y.1 (List.of_mem_zip (a := y.1) (b := y.2) hy).1).imp id fun z => ⟨z, PySem.W.cellsFrom_some _ _ _ (.inl z)⟩) fun env he s1 ic => ?_
  subst he
  refine ⟨nol.keeps ic.toInCall.keep, codeAny_func ?_⟩
  obtain ⟨t, pt, qt⟩ := body cdv B out s H vs Q E hv (room.deeper _) hs
  have I0 := inv_start (P := P) (w := w) (mg := mg) (CX := CX0) (E := E) S room.hd e0 (ln _ _ _ _ hs) rel ic
  refine wpAny_mono (pt.run [] s1 (start N vs) H _ I0 qt) (fun fl s' z => ?_) fun e s' z => z
  have c := cr_of (P := P) (w := w) (out := out) (s := s) (H := H) (Q := Q) (E := E) (X := cxOf CX0 P w K mg base N qual (defScope st) f cdv B out s H E) ⟨rfl, rfl, rfl, rfl, rfl, rfl⟩ z
  cases fl with
  | ret u => exact c
  | next => exact c
  | brk => obtain ⟨_, _, _, q⟩ := z; exact q.elim
  | cont => obtain ⟨_, _, _, q⟩ := z; exact q.elim
theorem fnPT {α : Type} {enc : α → List PyData} {Pr : α → Prop} {S : α → PyData → Prop} {x qual : Str} {st : Stmt} {f c : Addr} {fd : FuncData} {N ps : List Str} {k : Nat} (F : Fun K x qual st f fd) (hc : fd.code = .ref c) (sc : FnScope N ps (defScope st)) (hl : ∀ a, (enc a).length = ps.length)
    (body : ∀ (cdv : Value) (A : Around) (outer : List PySem.Env) (s : Shared) (H : Hp) (E : XK) (a : α), cdv = .ref c → Room k (A.deeper (envOfC qual (defScope st) s.heap.objs.size f cdv)) → Pr a →
      ∃ t, PSs (cxOf CX0 P w K mg base N qual (defScope st) f cdv A outer s H E).nox (defBody st) t ∧ Run K none t (slots N (enc a)) (S a) (fun _ => S a .none)) : FnOk P w K mg base CX0 (k + 1) f fd ps (spP K enc Pr S) := by
  refine Fun.okT F hc sc (fun vs H Q E ⟨a, t, _, _⟩ => by rw [t.length, hl]) (fun cdv A outer s H vs Q E hv hr ⟨a, ta, pa, tq, q⟩ => ?_)
  obtain ⟨t, pt, ru⟩ := body cdv A outer s H E a hv hr pa
  exact ⟨t, pt.nox, ru _ _ _ H (env_start tq ta) ⟨fun v d H' g sd td => q v d H' g.toEx sd td, fun p xs ds H' g z => (show False from z).elim⟩ fun σ' ρ' H' E' sd => q .non .none H' (Go.toEx ⟨E'.kp, E'.wok⟩) sd .non⟩
end
end Vd
set_option Elab.async false
set_option linter.all false
set_option maxRecDepth 100000
set_option maxHeartbeats 4000000
/-! the law's own call, where one def makes a lambda -/
namespace Vd
open PySem PySem.Spec PyProof.Rows L2
/-- no thing of the part is an empty table -/
def noTab (K : Fr) : Bool := K.all fun p => match p.2.data with
  | .fields vs => decide (vs.size ≠ 0)
  | _ => true
theorem mem_lk : ∀ {K : Fr} {b : Addr} {o : Obj}, K.lookup b = some o → (b, o) ∈ K
  | [], _, _, e => by cases e
  | (c, u) :: K, b, o, e => by
    rw [List.lookup_cons] at e
    split at e
    · rename_i h
      cases e
      rw [beq_iff_eq.mp h]
      exact List.mem_cons_self ..
    · exact List.mem_cons_of_mem _ (mem_lk e)
theorem noTab_at {K : Fr} (h : noTab K = true) {b : Addr} {o : Obj} (e : K.lookup b = some o) : o.data ≠ .fields #[] := fun z => by
  obtain ⟨oc, od, dt, sl⟩ := o
  cases (show dt = .fields #[] from z)
  have m := List.all_eq_true.mp h (b, ⟨oc, od, .fields #[], sl⟩) (mem_lk e)
  simp at m
end Vd
set_option Elab.async false
set_option linter.all false
set_option maxRecDepth 100000
set_option maxHeartbeats 4000000
/-! lcm of wide ints -/
namespace Vd
open PySem PySem.Spec PyProof.Rows L2 PySem.W
def rLcmX : List V → Hp → VK → Prop := fun vs H Q => ∃ a b : Int, vs = [.int a, .int b] ∧ a.natAbs < 2 ^ 6000 ∧ b.natAbs < 2 ^ 6000 ∧ Q (.int ((Nat.lcm a.natAbs b.natAbs : Nat) : Int)) H
theorem cr_lcmX {X : Cx} : CallR X (.builtin "math.lcm") rLcmX := by
  intro pins s σ H vs us Q I r h
  obtain ⟨a, b, rfl, ha, hb, q⟩ := h
  obtain ⟨t, u, rfl⟩ := Vals.int2 r
  have p1 : 1 < 2 ^ (5999 + 1) := Nat.one_lt_two_pow (by decide)
  have h1 : (max 1 a.natAbs).log2 ≤ 5999 := mg_log (Nat.max_lt.mpr ⟨p1, ha⟩)
  have h2 : (max a.natAbs b.natAbs).log2 ≤ 5999 := mg_log (Nat.max_lt.mpr ⟨ha, hb⟩)
  have e : (((Nat.lcm 1 a.natAbs).lcm b.natAbs : Nat) : Int) = ((Nat.lcm a.natAbs b.natAbs : Nat) : Int) := by rw [Nat.lcm_one_left]
  have le : Nat.lcm a.natAbs b.natAbs ≤ a.natAbs * b.natAbs := Nat.div_le_self ..
  have lt : Nat.lcm a.natAbs b.natAbs < 2 ^ (11999 + 1) := by
    refine Nat.lt_of_le_of_lt le ?_
    have z : a.natAbs * b.natAbs < 2 ^ 6000 * 2 ^ 6000 := Nat.mul_lt_mul'' ha hb
    rw [← Nat.pow_add] at z
    exact z
  have h3 : (((Nat.lcm a.natAbs b.natAbs : Nat) : Int)).natAbs.log2 < bitsLine := Nat.lt_of_le_of_lt (mg_log (k := 11999) lt) (by decide)
  have run := mg_run_lcm a t b u (by omega) (by omega) (by rw [e]; exact h3)
  rw [e] at run
  exact call_function_meets MGF.kind_lcm MGF.plain_lcm MGF.entry_lcm (MGF.args_lcm _ _) run.meets ⟨.int _, H, I.tok _, ⟨_, rfl⟩, q⟩
theorem ev_lcmX {K : Fr} {w : WA} {ρ : Rho} {ta tb : TE} {i j : Int} (ha : EvD K w ta ρ (Is (.int i))) (hb : EvD K w tb ρ (Is (.int j))) (bi : i.natAbs < 2 ^ 6000) (bj : j.natAbs < 2 ^ 6000) : EvD K w (tCB rLcmX (tCons ta (tCons tb tNil))) ρ (Is (.int ((Nat.lcm i.natAbs j.natAbs : Nat) : Int))) :=
  ev_cb (ea_cons ha (ea_cons hb ea_nil)) fun es e vs H k t Q q => by
    cases (show es = _ from e)
    obtain ⟨v, u, rfl, tv, tu⟩ := t.two
    rw [tv.inv_int, tu.inv_int]
    exact ⟨i, j, rfl, bi, bj, q _ _ H (Go.refl k) rfl (.int _)⟩
end Vd
set_option Elab.async false
set_option linter.all false
set_option maxRecDepth 100000
set_option maxHeartbeats 4000000
/-! division by numbers of any size: by _pylong, where there is room -/
namespace Vd
open PySem PySem.Spec PyProof.Rows L2
class Sees (P : Program) (base : Heap) : Prop where
  seer : base.NoSeer
  tree : P.given.tree = none
theorem op_fdivS {P : Program} {base : Heap} [hS : Sees P base] {X : Cx} {A : Around} {k : Nat} (hr : Room k A) (hP : X.prog = P := by rfl) (hB : X.base = base := by rfl) (hA : X.A = A := by rfl) (hk : 32 ≤ k := by decide) (hst : ∃ e l, X.stack = e :: l ∧ e.scope.isGenerator = false ∧ e.scope.isCoroutine = false ∧ e.builtins = builtinsNs ∧ e.globals = mainGlobals := by exact ⟨_, _, rfl, rfl, rfl, rfl, rfl⟩) :
    OpR X (binaryOp .FloorDiv) (rI (fun _ j => 0 < j) fun i j => .int (i / j)) := by
  intro pins s σ H x y v u Q I rx ry h
  obtain ⟨i, j, rfl, rfl, hj, q⟩ := h
  obtain ⟨t, rfl⟩ := rx
  obtain ⟨t', rfl⟩ := ry
  obtain ⟨ev, l, hl, hg, hc, hb, hgl⟩ := hst
  have e : i.fdiv j = i / j := Int.fdiv_eq_ediv_of_nonneg i (by omega)
  refine floordiv_int (by omega) ?_ (.inr (PySem.PylongRoom.of I.nolimit ?_ ?_))
  · rw [e]
    exact ⟨.int (i / j), H, I.kept fun _ _ z => z, ⟨_, rfl⟩, q⟩
  · have := hr.dp
    rw [hA]
    show A.depth + 100 < recursionLimit
    omega
  · exact PySem.SeerAt.of ((show X.base.NoSeer by rw [hB]; exact hS.seer).keeps I.bk) (show X.prog.given.tree = none by rw [hP]; exact hS.tree) (I.ok.frames.trans (by rw [hl])) hg hc hb hgl
end Vd
set_option Elab.async false
set_option linter.all false
set_option maxRecDepth 100000
set_option maxHeartbeats 4000000
/-! defs that may raise an error which keeps a field; try .. except, its suite -/
namespace L2
open PySem PySem.Spec PyProof.Rows
end L2
namespace Vd
open PySem PySem.Spec PyProof.Rows L2 Mt
/-- the error's dict, at p: it keeps d under a name -/
def XcOk (K : Fr) (H : Hp) (dd : Option Addr) (fld : Str) (d : PyData) : Prop := ∃ p v, dd = some p ∧ H p = some (.xd [(fld, v)]) ∧ Tp K H v d
abbrev XS := Addr → Str → PyData → Prop
def EvDX (K : Fr) (w : WA) (E : XK) (X : XS) (te : TE) (ρ : Rho) (S : PyData → Prop) : Prop :=
  ∀ (σ : L2.St) (H0 : Bs) (H : Hp), Env K w H0 H σ ρ → (∀ C dd fld d H', Go w H H' → X C fld d → XcOk K H' dd fld d → E (.ref C) dd H') → ∀ Q : VK, (∀ v d H', Go w H H' → S d → Tp K H' v d → Q v H') → te σ H Q
section
variable {K : Fr} {w : WA} {ρ : Rho} {te ta tb : TE} {tr : TA} {tt : TT} {S S2 : PyData → Prop} {R : Rt} {N N1 : Rho → Prop} {ts tu tv : TS} {g : TG} {Ew : XK} {X : XS}
theorem EvDX.mono (h : EvDX K w Ew X te ρ S) (m : ∀ d, S d → S2 d) : EvDX K w Ew X te ρ S2 := fun σ H0 H E x Q q => h σ H0 H E x Q fun v d H' g s t => q v d H' g (m d s) t
end
/-! ### a promise with lists, of a def that calls repr -/
/-! ### try: x = a call, except C as e: a suite that hands something back -/
section
variable {K : Fr} {w : WA} {ρ : Rho} {ta tb te : TE} {tr : TA} {tt : TT} {S : PyData → Prop} {R : Rt} {N : Rho → Prop} {tu : TS} {X : XS}
theorem XcOk.go {H H' : Hp} {dd : Option Addr} {fld : Str} {d : PyData} (k : Wok w H) (g : Go w H H') (h : XcOk K H dd fld d) : XcOk K H' dd fld d := by
  obtain ⟨p, v, e, hp, t⟩ := h
  refine ⟨p, v, e, g.1 p _ (fun z => ?_) hp, Tp.go k g _ _ t⟩
  obtain ⟨_, _, _, y⟩ := k p z
  rw [hp] at y; cases y
end
end Vd
set_option Elab.async false
set_option linter.all false
set_option maxRecDepth 100000
set_option maxHeartbeats 4000000
set_option exponentiation.threshold 10000
/-! small data that is a fraction, a pair, a turn, a wave: which one; how wide things are shown -/
namespace My
open PySem PySem.Spec PyProof.Rows L2 Vd Mt
def Smx (d : PyData) : Prop := ∃ l n, SmP 40 l n d
theorem Smx.any {d : PyData} (h : Smx d) : ∃ b l n, b ≤ 1000 ∧ SmP b l n d := by
  obtain ⟨l, n, s⟩ := h
  exact ⟨40, l, n, by decide, s⟩
theorem Smx.int {i : Int} (h : Smx (.int i)) : i.natAbs < 2 ^ 40 := by
  obtain ⟨l, n, s⟩ := h
  have z := s.sm
  rw [smB, decide_eq_true_iff] at z
  exact z
/-! ### widths -/
mutual
def wd : PyData → Nat
  | .tuple ds => 3 + wdA ds
  | .list ds => 3 + wdA ds
  | .none => 4
  | .bool _ => 5
  | .int i => (PyData.int i).shown.length
  | .str x => (PyData.str x).shown.length
  | .dict es => (PyData.dict es).shown.length
def wdA : List PyData → Nat
  | [] => 0
  | d :: ds => wd d + 2 + wdA ds
end
theorem shA_iff : ∀ {ds : List PyData}, PyData.showableAll ds = true ↔ ∀ d ∈ ds, d.showable = true
  | [] => ⟨fun _ _ h => (nomatch h), fun _ => rfl⟩
  | d :: ds => by
    rw [PyData.showableAll, Bool.and_eq_true, shA_iff (ds := ds)]
    constructor
    · rintro ⟨h1, h2⟩ x hx
      rcases List.mem_cons.mp hx with rfl | hx
      · exact h1
      · exact h2 x hx
    · intro h
      exact ⟨h d List.mem_cons_self, fun x hx => h x (List.mem_cons_of_mem _ hx)⟩
/-- what may be shown, of a width -/
structure ShP (W : Nat) (d : PyData) : Prop where
  sh : d.showable = true
  wt : wd d ≤ W
theorem ShP.mono {W W' : Nat} {d : PyData} (h : ShP W d) (k : W ≤ W') : ShP W' d := ⟨h.sh, Nat.le_trans h.wt k⟩
theorem ShP.tup {W : Nat} {ds : List PyData} (h : ∀ d ∈ ds, d.showable = true) (k : 3 + wdA ds ≤ W) : ShP W (.tuple ds) := ⟨by rw [PyData.showable]; exact shA_iff.mpr h, by rw [wd]; exact k⟩
theorem ShP.lst {W : Nat} {ds : List PyData} (h : ∀ d ∈ ds, d.showable = true) (k : 3 + wdA ds ≤ W) : ShP W (.list ds) := ⟨by rw [PyData.showable]; exact shA_iff.mpr h, by rw [wd]; exact k⟩
end My
namespace My
open PySem PySem.Spec PyProof.Rows L2 Vd Mt
end My
namespace My
open PySem PySem.Spec PyProof.Rows L2 Vd Mt
end My
namespace My
open PySem PySem.Spec PyProof.Rows L2 Vd Mt
end My
set_option Elab.async false
set_option linter.all false
set_option maxRecDepth 100000
set_option maxHeartbeats 4000000
set_option exponentiation.threshold 10000
/-! which thing is wrong first; sizes of drawn things; a call with the well of a def that calls repr -/
namespace L2
open PySem PySem.Spec PyProof.Rows
end L2
namespace Vd
open PySem PySem.Spec PyProof.Rows L2 Mt
end Vd
namespace My
open PySem PySem.Spec PyProof.Rows L2 Vd Mt
/-- a thing is right for its parameter's kind -/
def rightK (s : Str) (d : PyData) : Bool := if s = "wave" then isWv d else if s = "turn" then isTn d else if s = "fraction" then isFr d else isPr d
theorem tf (b : Bool) : b = true ∨ b = false := by cases b <;> simp
/-- the first one that is wrong, with its kind -/
def fw : List Str → List PyData → Option (Str × PyData)
  | k :: ks, d :: ds => if rightK k d then fw ks ds else some (k, d)
  | _, _ => none
/-- a drawn thing -/
structure ThP (d : PyData) : Prop where
  sm : SmP 40 120 14 d
  sh : ShP 300000 d
theorem ThP.any {d : PyData} (h : ThP d) : ∃ b l n, b ≤ 1000 ∧ SmP b l n d := ⟨40, 120, 14, by decide, h.sm⟩
end My
namespace Vd
open PySem PySem.Spec PyProof.Rows L2 Mt
end Vd
namespace Vd
open PySem PySem.Spec PyProof.Rows L2 Mt
end Vd
namespace L2
open PySem PySem.Spec PyProof.Rows
end L2
namespace Vd
open PySem PySem.Spec PyProof.Rows L2 Mt
theorem kit_self {K : Fr} {A : Addr} : PySem.W.kitOne K (.ref A) (.ref A) = some true := if_pos (beq_self_eq_true _)
theorem kit_ne {K : Fr} {A B : Addr} (hA : PySem.W.subIn K (.ref A) (.ref A) = some true) (hB : PySem.W.subIn K (.ref A) (.ref B) = some false) (hc : PySem.W.isClsIn K B = true) (ht : PySem.W.typeIn K (.ref B) = some (.type "type")) : PySem.W.kitOne K (.ref A) (.ref B) = some false := by
  have ne : (Value.ref A == Value.ref B) = false := by
    cases e : (Value.ref A == Value.ref B) with
    | false => rfl
    | true =>
      have z : A = B := Value.ref.inj (beq_iff_eq.mp e)
      rw [z] at hA hB
      rw [hA] at hB
      cases hB
  unfold PySem.W.kitOne
  rw [if_neg (by rw [ne]; exact Bool.false_ne_true)]
  show (if ((PySem.W.clsIn K B).isSome && PySem.W.typeIn K (.ref B) == some (.type "type")) = true then PySem.W.subIn K (.ref A) (.ref B) else none) = some false
  have hc' : (PySem.W.clsIn K B).isSome = true := hc
  rw [if_pos (by rw [hc', ht] <;> rfl)]
  exact hB
theorem kit_ty2 {K : Fr} {A : Addr} {T : String} {b : Bool} (hm : PySem.W.kitMeta T = true) (h : PySem.W.subIn K (.ref A) (.type T) = some b) : PySem.W.kitOne K (.ref A) (.type T) = some b := by
  unfold PySem.W.kitOne
  rw [if_neg (by simp)]
  show (if PySem.W.kitMeta T = true then PySem.W.subIn K (.ref A) (.type T) else none) = some b
  rw [if_pos hm]
  exact h
end Vd
set_option Elab.async false
set_option linter.all false
set_option maxRecDepth 100000
set_option maxHeartbeats 6400000
/-! set(a tuple of ints) -/
namespace Vd
open PySem PySem.Spec PyProof.Rows L2 Mt
end Vd
set_option Elab.async false
set_option linter.all false
set_option maxRecDepth 100000
set_option maxHeartbeats 4000000
set_option exponentiation.threshold 10000
/-! things that are refused where frames are: lists of texts that differ, isinstance of three kinds, is None, zip of two tuples -/
namespace L2
open PySem PySem.Spec PyProof.Rows
end L2
namespace Vd
open PySem PySem.Spec PyProof.Rows L2 Mt
section
variable {K : Fr} {w : WA} {ρ : Rho} {ta tb te : TE} {tr : TA} {tt : TT} {S : PyData → Prop} {Ew : XK} {X : XS} {g : TG} {tu : TS} {R : Rt} {N : Rho → Prop} {ds es : List PyData}
/-- is None, of anything -/
theorem ev_isNA {d : PyData} (ha : EvD K w ta ρ (Is d)) : EvD K w (tOp (fun x y H Q => y = .non ∧ Q (.bl (decide (x = .non))) H) ta (tC .non)) ρ (Is (.bool (noneB d))) := ev_op ha ev_non fun a' b' ea eb x y H k tx ty Q q => by
  rw [ea] at tx; rw [eb] at ty
  refine ⟨ty.inv_non, q _ _ H (Go.refl k) ?_ (.bl _)⟩
  cases tx <;> rfl
/-- for x, y in zip(a tuple, a tuple) -/
theorem run_forZT (h : EvD K w ta ρ (Is (.tuple ds))) (h2 : EvD K w tb ρ (Is (.tuple es))) (I : Nat → Rho → Prop) (h0 : I 0 ρ)
    (hs : ∀ (j : Nat) d e ρ', ds[j]? = some d → es[j]? = some e → I j ρ' → ∃ ρ1, Tg K w g (.tuple [d, e]) ρ' ρ1 ∧ Run K w tu ρ1 R (fun ρ2 => I (j + 1) ρ2)) (hd : ∀ ρ', I (min ds.length es.length) ρ' → N ρ') :
    Run K w (tFor (iZm K (tCons ta (tCons tb tNil))) g tu) ρ R N := fun D σ H0 H E r nx =>
  h σ H0 H E _ fun v d H1 g1 s1 t1 => by
    cases (show d = _ from s1)
    obtain ⟨a, xs, rfl, sq, al⟩ := t1.inv_tup
    refine h2 σ H0 H1 (E.go g1) _ fun v2 e H2 g2 s2 t2 => ?_
    cases (show e = _ from s2)
    obtain ⟨b, ys, rfl, sq2, al2⟩ := t2.inv_tup
    have E2 := (E.go g1).go g2
    have F1 := E2.pinT (sqT_go (E.go g1).wok g2 sq) (al.go (E.go g1).wok g2)
    have F := F1.pinT sq2 al2
    refine ⟨true, true, a, b, xs, ys, rfl, sqT_go (E.go g1).wok g2 sq, sq2, for_it (walk_m (t := true) (u := true) (xs := xs) (ys := ys) rfl) (fun j σ' H' => ∃ ρ', I j ρ' ∧ Env K w (pinT (pinT H0 a xs ds) b ys es) H' σ' ρ') ⟨ρ, h0, F⟩ (fun j σ' H' _ hz => ?_) (fun j x σ' H' H'' hj hz hy => ?_) fun σ' H' hz => ?_⟩
    · obtain ⟨ρ', _, E'⟩ := hz
      exact ⟨E'.unpin.pinned.1, E'.pinned.1⟩
    · obtain ⟨ρ', pI, E'⟩ := hz
      obtain ⟨T, x1, y1, rfl, hT, rfl, hx, hy⟩ := hy
      obtain ⟨d, hd1, td⟩ := E'.unpin.pinned.2.getv hx
      obtain ⟨e, he1, te1⟩ := E'.pinned.2.getv hy
      obtain ⟨ρ1, tgt, ru⟩ := hs j d e ρ' hd1 he1 pI
      have gn := Go.new (o := .tup [x1, y1]) E'.wok hT
      have tt : Tp K (upd H' T (.tup [x1, y1])) (.ref T) (.tuple [d, e]) := .tup (.inl (.inl upd_same)) (.cons (td.go E'.wok gn) (.cons (te1.go E'.wok gn) .nil))
      refine tgt _ σ' _ _ _ (E'.go gn) tt fun σ2 H3 _ E2 => ru _ σ2 _ H3 E2 ⟨fun v d H' gg rd td => r.1 v d H' gg rd td, fun q zs fs H' gg rl hq hy ty => r.2 q zs fs H' gg rl hq hy ty⟩ fun σ3 ρ3 H3 E3 q => ⟨ρ3, q, E3⟩
    · obtain ⟨ρ', pI, E'⟩ := hz
      exact nx σ' ρ' H' E'.unpin.unpin (hd ρ' (by rw [← al.length, ← al2.length]; exact pI))
end
end Vd
namespace My
open PySem PySem.Spec PyProof.Rows L2 Vd Mt
def Smy (d : PyData) : Prop := ∃ b l n, b ≤ 1000 ∧ l ≤ 1000 ∧ SmP b l n d
theorem Smy.len {ds : List PyData} (h : Smy (.tuple ds)) : ds.length ≤ 1000 := by
  obtain ⟨b, l, n, hb, hl, s⟩ := h
  obtain ⟨k, rfl⟩ : ∃ k, n = k + 1 := ⟨n - 1, by have := tup_deep s; omega⟩
  exact Nat.le_trans (SmP.tup.mp s).1 hl
theorem Smy.any {d : PyData} (h : Smy d) : ∃ b l n, b ≤ 1000 ∧ SmP b l n d := by
  obtain ⟨b, l, n, hb, hl, s⟩ := h
  exact ⟨b, l, n, hb, s⟩
variable {f d : PyData}
end My
set_option Elab.async false
set_option linter.all false
set_option maxRecDepth 100000
set_option maxHeartbeats 4000000
/-! own lists that are read from now on, pop, loops over combinations and over zip of two lists, comprehensions over zip of two tuples and over enumerate -/
namespace L2
open PySem PySem.Spec PyProof.Rows
end L2
namespace Vd
open PySem PySem.Spec PyProof.Rows L2 Mt
section
variable {K : Fr} {w : WA} {ρ : Rho} {te ta tb tl tr : TE} {tt : TT} {S : PyData → Prop} {R : Rt} {N : Rho → Prop} {tu ts : TS} {g : TG} {ds es : List PyData} {vs : List Nat}
theorem TpAll.dropLast {H : Hp} : ∀ {xs : List V} {ds : List PyData}, TpAll K H xs ds → TpAll K H xs.dropLast ds.dropLast
  | _, _, .nil => .nil
  | _, _, .cons h .nil => .nil
  | _, _, .cons h (.cons h2 t) => .cons h (TpAll.dropLast (.cons h2 t))
theorem run_asc {K : Fr} {w : WA} {ρ : Rho} {ts tu tv : TS} {R : Rt} {N : Rho → Prop} (h : Run K w (tSeq ts (tSeq tu tv)) ρ R N) : Run K w (tSeq (tSeq ts tu) tv) ρ R N := h
theorem run_pop {i : Nat} (h : ρ[i]? = some (some (.own ds))) (hd : ds ≠ []) (k : N (ρ.set i (some (.own ds.dropLast)))) : Run K w (tDrop (tBM0 K "list" rPop (tVar i))) ρ R N := fun D σ H0 H E r n => by
  obtain ⟨p, xs, e, h0, hp, t, nw⟩ := E.gown h
  have l0 : xs.length - 1 < xs.length := by
    have := t.length
    have : 0 < ds.length := List.length_pos_iff.mpr hd
    omega
  exact ⟨.ref p, e, .inl ⟨rfl, xs, .inl (.inl hp)⟩, p, xs, xs[xs.length - 1], rfl, rfl, hp, List.getElem?_eq_getElem l0, n σ _ _ (E.chg h e hp t.dropLast) k⟩
/-- an own list is only read from here on, and the def's end is not reached -/
theorem run_ro {i : Nat} (h : ρ[i]? = some (some (.own ds))) (k : Run K w tu (ρ.set i (some (.ro ds))) R (fun _ => False)) : Run K w tu ρ R N := fun D σ H0 H E r nx => by
  obtain ⟨p, xs, e, h0, hp, t, nw⟩ := E.gown h
  have up : ∀ {H' : Hp}, Go w (upd H0.h p (.lst xs)) H' → Go w H0.h H' := fun gg => ⟨(Kp.new h0).trans gg.1, gg.2⟩
  have F : Env K w ⟨upd H0.h p (.lst xs), H0.pn, (p, xs, ds) :: H0.ln, H0.tn, H0.zn⟩ H σ (ρ.set i (some (.ro ds))) := by
    refine ⟨E.kp.base hp, E.pin, fun r hr => ?_, E.wok, by rw [List.length_set]; exact E.len, fun j o s a b => ?_, fun j l d1 d2 o a b c d => ?_, E.tq, E.zin⟩
    · rcases List.mem_cons.mp (show r ∈ (p, xs, ds) :: (H0.ln ++ H0.tn) from hr) with rfl | hr
      · exact ⟨.inl (.inl upd_same), t, nw⟩
      · obtain ⟨z1, z2, z3⟩ := E.lin r hr
        exact ⟨sqL_kp (w := w) (Kp.new h0) z3 z1, z2, z3⟩
    · by_cases q : j = i
      · subst q
        have hj : j < ρ.length := (List.getElem?_eq_some_iff.mp h).1
        rw [List.getElem?_set_self hj] at b
        cases b
        rw [e] at a
        cases a
        exact ⟨p, xs, rfl, List.mem_cons_self ..⟩
      · rw [List.getElem?_set_ne (Ne.symm q)] at b
        have z := E.sl j o s a b
        cases s with
        | none => trivial
        | some s =>
          cases s with
          | d x => exact z
          | obj x => exact z
          | ro x => obtain ⟨p2, x2, e2, m2⟩ := z; exact ⟨p2, x2, e2, List.mem_cons_of_mem _ m2⟩
          | ex φ => obtain ⟨v, e2, z2, x⟩ := z; exact ⟨v, e2, x.frz hp z2, x⟩
          | own x =>
            obtain ⟨q2, ys, eo, q0, hq, tq, nq⟩ := z
            refine ⟨q2, ys, eo, ?_, hq, tq, nq⟩
            show upd H0.h p (.lst xs) q2 = none
            rw [upd_ne (fun z2 => q (by
              subst z2
              subst eo
              exact E.sep j i x ds _ b h a e))]
            exact q0
    · have ne : ∀ {m : Nat} {d3 : List PyData}, (ρ.set i (some (.ro ds)))[m]? = some (some (.own d3)) → m ≠ i := fun {m d3} z y => by
        subst y
        have hm : m < ρ.length := (List.getElem?_eq_some_iff.mp h).1
        rw [List.getElem?_set_self hm] at z
        cases z
      have nj := ne a
      have nl := ne b
      rw [List.getElem?_set_ne (Ne.symm nj)] at a
      rw [List.getElem?_set_ne (Ne.symm nl)] at b
      exact E.sep j l d1 d2 o a b c d
  refine k D σ _ H F ⟨fun v d H' gg rd td => r.1 v d H' (up gg) rd td, fun q ys fs H' gg rl hq hy ty => r.2 q ys fs H' (up gg) rl ?_ hy ty⟩ fun _ _ _ _ f => f.elim
  have hq' : upd H0.h p (.lst xs) q = none := hq
  have ne : q ≠ p := fun z => by rw [z, upd_same] at hq'; cases hq'
  rw [upd_ne ne] at hq'
  exact hq'
theorem Env.ro (E : Env K w H0 H σ ρ) {i : Nat} (h : ρ[i]? = some (some (.ro ds))) : ∃ p xs, σ[i]? = some (some (.ref p)) ∧ (p, xs, ds) ∈ H0.ln := by
  have hi : i < σ.length := by rw [E.len]; exact (List.getElem?_eq_some_iff.mp h).1
  obtain ⟨p, xs, e, m⟩ := E.sl i _ _ (List.getElem?_eq_getElem hi) h
  exact ⟨p, xs, by rw [List.getElem?_eq_getElem hi, e], m⟩
theorem Env.lns (E : Env K w H0 H σ ρ) {p : Addr} {xs : List V} (h : (p, xs, ds) ∈ H0.ln) : SqL K H p xs ∧ TpAll K H xs ds := by
  obtain ⟨z1, z2, z3⟩ := E.lin (p, xs, ds) (List.mem_append_left _ h)
  exact ⟨sqL_kp E.kp z3 z1, z2⟩
/-- for .. in combinations(a list that is read, 2) -/
theorem run_forB {i0 : Nat} (h : ρ[i0]? = some (some (.ro ds))) (hk : EvD K w tr ρ (Is (.int 2))) (I : Nat → Rho → Prop) (h0 : I 0 ρ)
    (hs : ∀ (j : Nat) ks ρ', plc ds.length 2 j = some ks → I j ρ' → ∃ ρ1, Tg K w g (.tuple (atD ds ks)) ρ' ρ1 ∧ Run K w tu ρ1 R (fun ρ2 => I (j + 1) ρ2)) (hd : ∀ ρ', I (plcN ds.length 2) ρ' → N ρ') :
    Run K w (tFor (iCb K (tCons (tVar i0) (tCons tr tNil))) g tu) ρ R N := fun D σ H0 H E r nx => by
  obtain ⟨a, xs, e, m⟩ := E.ro h
  refine ⟨.ref a, e, hk σ H0 H E _ fun y d H1 g1 s1 t1 => ?_⟩
  cases (show d = _ from s1)
  rw [t1.inv_int]
  have E1 := E.go g1
  have al := (E1.lns m).2
  have el := al.length
  refine ⟨a, xs, 2, rfl, .inl rfl, (E1.lns m).1, for_it (walk_b (xs := xs) (.inl rfl)) (fun j σ' H' => ∃ ρ', I j ρ' ∧ Env K w H0 H' σ' ρ') ⟨ρ, h0, E1⟩ (fun j σ' H' _ hz => trivial) (fun j x σ' H' H'' hj hz hy => ?_) fun σ' H' hz => ?_⟩
  · obtain ⟨ρ', pI, E'⟩ := hz
    obtain ⟨T, ks, rfl, hT, hks, rfl⟩ := hy
    rw [el] at hks
    obtain ⟨ρ1, tgt, ru⟩ := hs j ks ρ' hks pI
    have gn := Go.new (o := .tup (atV xs ks)) E'.wok hT
    exact tgt _ σ' _ _ _ (E'.go gn) (.tup (.inl (.inl upd_same)) (tp_atL ((E'.lns m).2.go E'.wok gn) ks)) fun σ2 H3 _ E2 => ru _ σ2 _ H3 E2 r fun σ3 ρ3 H3 E3 q => ⟨ρ3, q, E3⟩
  · obtain ⟨ρ', pI, E'⟩ := hz
    exact nx σ' ρ' H' E' (hd ρ' (by rw [← el]; exact pI))
/-- for x, y in zip(a list, a list), both read -/
theorem run_forZR {i0 j0 : Nat} (h : ρ[i0]? = some (some (.ro ds))) (h2 : ρ[j0]? = some (some (.ro es))) (I : Nat → Rho → Prop) (h0 : I 0 ρ)
    (hs : ∀ (j : Nat) d e ρ', ds[j]? = some d → es[j]? = some e → I j ρ' → ∃ ρ1, Tg K w g (.tuple [d, e]) ρ' ρ1 ∧ Run K w tu ρ1 R (fun ρ2 => I (j + 1) ρ2)) (hd : ∀ ρ', I (min ds.length es.length) ρ' → N ρ') :
    Run K w (tFor (iZm K (tCons (tVar i0) (tCons (tVar j0) tNil))) g tu) ρ R N := fun D σ H0 H E r nx => by
  obtain ⟨a, xs, ea, ma⟩ := E.ro h
  obtain ⟨b, ys, eb, mb⟩ := E.ro h2
  have la := (E.lns ma).2.length
  have lb := (E.lns mb).2.length
  refine ⟨.ref a, ea, .ref b, eb, false, false, a, b, xs, ys, rfl, (E.lns ma).1, (E.lns mb).1, for_it (walk_m (t := false) (u := false) (xs := xs) (ys := ys) rfl) (fun j σ' H' => ∃ ρ', I j ρ' ∧ Env K w H0 H' σ' ρ') ⟨ρ, h0, E⟩ (fun j σ' H' _ hz => ?_) (fun j x σ' H' H'' hj hz hy => ?_) fun σ' H' hz => ?_⟩
  · obtain ⟨ρ', _, E'⟩ := hz
    exact ⟨(E'.lns ma).1, (E'.lns mb).1⟩
  · obtain ⟨ρ', pI, E'⟩ := hz
    obtain ⟨T, x1, y1, rfl, hT, rfl, hx, hy⟩ := hy
    obtain ⟨d, hd1, td⟩ := (E'.lns ma).2.getv hx
    obtain ⟨e, he1, te1⟩ := (E'.lns mb).2.getv hy
    obtain ⟨ρ1, tgt, ru⟩ := hs j d e ρ' hd1 he1 pI
    have gn := Go.new (o := .tup [x1, y1]) E'.wok hT
    have tt : Tp K (upd H' T (.tup [x1, y1])) (.ref T) (.tuple [d, e]) := .tup (.inl (.inl upd_same)) (.cons (td.go E'.wok gn) (.cons (te1.go E'.wok gn) .nil))
    exact tgt _ σ' _ _ _ (E'.go gn) tt fun σ2 H3 _ E2 => ru _ σ2 _ H3 E2 r fun σ3 ρ3 H3 E3 q => ⟨ρ3, q, E3⟩
  · obtain ⟨ρ', pI, E'⟩ := hz
    exact nx σ' ρ' H' E' (hd ρ' (by rw [← la, ← lb]; exact pI))
/-- [f for x, y in zip(a tuple, a tuple)] -/
theorem el_mapZT (f : Nat → PyData) (h : EvD K w ta ρ (Is (.tuple ds))) (h2 : EvD K w tb ρ (Is (.tuple es))) (hle : es.length = ds.length) (hz : ds.length ≤ 1000)
    (ht : ∀ (j : Nat) d e, ds[j]? = some d → es[j]? = some e → ∃ ρ1, Tc K w g vs (.tuple [d, e]) (wipeR ρ vs) ρ1 ∧ EvD K w te ρ1 (Is (f j))) :
    EvL K w (tLc (iZm K (tCons ta (tCons tb tNil))) g tYes te vs) ρ (Is ((List.range ds.length).map f)) := fun σ H0 H E Q q =>
  h σ H0 H E _ fun v d H1 g1 s1 t1 => by
    cases (show d = _ from s1)
    obtain ⟨a, xs, rfl, sq1, al1⟩ := t1.inv_tup
    refine h2 σ H0 H1 (E.go g1) _ fun v2 e H2 g2 s2 t2 => ?_
    cases (show e = _ from s2)
    obtain ⟨b, ys, rfl, sb, bl⟩ := t2.inv_tup
    have E2 := (E.go g1).go g2
    have sq := sqT_go g1.2 g2 sq1
    have al := al1.go g1.2 g2
    have hn : ds.length = min xs.length ys.length := by rw [al.length, bl.length, hle]; omega
    refine ⟨true, true, a, b, xs, ys, rfl, sq, sb, fun Dl hD => ?_⟩
    refine lc_data ((walk_m (K := K) (t := true) (u := true) (a := a) (b := b) (xs := xs) (ys := ys) hn).mono (G' := fun H => (SqT K H a xs ∧ TpAll K H xs ds) ∧ SqT K H b ys ∧ TpAll K H ys es) (fun H h => ⟨h.1.1, h.2.1⟩) fun i H x H' _ _ y => y) (fun i => .tuple [ds.getD i .none, es.getD i .none]) (fun i H x H' hi wk hG hY => ?_) (fun H H' wk hG gg => ⟨⟨sqT_go wk gg hG.1.1, hG.1.2.go wk gg⟩, sqT_go wk gg hG.2.1, hG.2.2.go wk gg⟩) (fun _ => true) f (fun i hi => ?_) (by omega) E2 ⟨⟨sq, al⟩, sb, bl⟩ hD fun zs H' gg hz tz => ?_
    · obtain ⟨T, x1, y1, rfl, hT, rfl, hx, hy⟩ := hY
      obtain ⟨d1, hd1, td⟩ := hG.1.2.getv hx
      obtain ⟨e1, he1, te1⟩ := hG.2.2.getv hy
      have gn := Go.new (o := .tup [x1, y1]) wk hT
      rw [show ds.getD i .none = d1 by rw [List.getD_eq_getElem?_getD, hd1]; rfl, show es.getD i .none = e1 by rw [List.getD_eq_getElem?_getD, he1]; rfl]
      exact ⟨gn, .tup (.inl (.inl upd_same)) (.cons (td.go wk gn) (.cons (te1.go wk gn) .nil))⟩
    · have h1 : ds[i]? = some ds[i] := List.getElem?_eq_getElem hi
      have h3 : es[i]? = some (es[i]'(by omega)) := List.getElem?_eq_getElem _
      rw [show ds.getD i .none = ds[i] by rw [List.getD_eq_getElem?_getD, h1]; rfl, show es.getD i .none = es[i]'(by omega) by rw [List.getD_eq_getElem?_getD, h3]; rfl]
      obtain ⟨ρ1, tc, ev⟩ := ht i _ _ h1 h3
      exact ⟨ρ1, tc, et_yes, fun _ => ev⟩
    · rw [filter_all fun _ => rfl] at tz
      exact q Dl zs _ H' ((g1.trans g2).trans gg) rfl (fresh_go (g1.trans g2).2 (g1.trans g2).1 hD) hz tz
/-- [f(j, x) for j, x in enumerate(a tuple) if p] -/
theorem el_compE0 (p : Nat → Bool) (f : Nat → PyData) (h : EvD K w tl ρ (Is (.tuple ds))) (hz : ds.length ≤ 1000)
    (ht : ∀ (i : Nat) d, ds[i]? = some d → ∃ ρ1, Tc K w g vs (.tuple [.int (i : Int), d]) (wipeR ρ vs) ρ1 ∧ EvT K w tt ρ1 (Is (p i)) ∧ (p i = true → EvD K w te ρ1 (Is (f i)))) :
    EvL K w (tLc (iEn0 K (tCons tl tNil)) g tt te vs) ρ (Is (((List.range ds.length).filter p).map f)) := fun σ H0 H E Q q =>
  h σ H0 H E _ fun v d H1 g1 s1 t1 => by
    cases (show d = _ from s1)
    obtain ⟨a, xs, rfl, sq, al⟩ := t1.inv_tup
    have E1 := E.go g1
    refine ⟨true, a, xs, rfl, sq, fun Dl hD => ?_⟩
    have el := al.length
    refine lc_data ((walk_n (K := K) (t := true) (a := a) (k := 0) (xs := xs)).mono (G' := fun H => SqT K H a xs ∧ TpAll K H xs ds) (fun H h => h.1) fun i H x H' _ _ y => y) (fun i => .tuple [.int (i : Int), ds.getD i .none]) (fun i H x H' hi wk hG hY => ?_) (fun H H' wk hG gg => ⟨sqT_go wk gg hG.1, hG.2.go wk gg⟩) p f (fun i hi => ?_) (by omega) E1 ⟨sq, al⟩ hD fun zs H' gg hz tz => ?_
    · obtain ⟨T, x, rfl, hT, rfl, hx⟩ := hY
      rw [Int.zero_add]
      have gn := Go.new (o := .tup [.int (i : Int), x]) wk hT
      refine ⟨gn, .tup (.inl (.inl upd_same)) (.cons (.int _) (.cons ?_ .nil))⟩
      obtain ⟨d', hd', td⟩ := hG.2.getv hx
      rw [show ds.getD i .none = d' by rw [List.getD_eq_getElem?_getD, hd']; rfl]
      exact td.go wk gn
    · have hi' : i < ds.length := by omega
      have hd : ds[i]? = some ds[i] := List.getElem?_eq_getElem hi'
      rw [show ds.getD i .none = ds[i] by rw [List.getD_eq_getElem?_getD, hd]; rfl]
      exact ht i _ hd
    · rw [el] at tz
      exact q Dl zs _ H' (g1.trans gg) rfl (fresh_go g1.2 g1.1 hD) hz tz
/-- list(a list that has a name) -/
theorem el_listL {i : Nat} (h : LstAt ρ i ds) : EvL K w (tCB (fun xs H Q => ∃ p ys, xs = [V.ref p] ∧ (SqL K H p ys ∨ SqT K H p ys) ∧ ∀ l, H l = none → Q (.ref l) (upd H l (.lst ys))) (tCons (tVar i) tNil)) ρ (Is ds) := fun σ H0 H E Q q => by
  obtain ⟨p, xs, e, sq, al, nw⟩ := E.lst h
  refine ⟨.ref p, e, p, xs, rfl, .inl sq, fun l hl => ?_⟩
  have gl := Go.new (o := .lst xs) E.wok hl
  exact q l _ _ _ gl rfl (fresh_go E.wok (Kp.refl _ _) hl) upd_same (al.go E.wok gl)
/-- sum of a new list of ints -/
theorem ev_sumL {ns : List Int} (h : EvL K w te ρ (Is (ns.map PyData.int))) : EvD K w (tCB (rSum K) (tCons te tNil)) ρ (Is (.int ns.sum)) := fun σ H0 H E Q q =>
  h σ H0 H E _ fun p xs ds H1 g1 s1 n1 h1 t1 => by
    cases (show ds = _ from s1)
    have ex := ints_of t1
    exact ⟨p, ns, rfl, .inl (.inl (by rw [h1, ex])), q _ _ H1 g1 rfl (.int _)⟩
end
end Vd
namespace Vd
open PySem PySem.Spec PyProof.Rows L2 Mt
section
variable {K : Fr} {w : WA} {ρ : Rho} {te ta tb tl tr : TE} {tt : TT} {S : PyData → Prop} {R : Rt} {N : Rho → Prop} {tu ts : TS} {g : TG} {ds es : List PyData} {vs : List Nat}
/-- a, b, c = a list, a list, e -/
theorem run_parLL3 {i j l : Nat} {d : PyData} (h1 : EvL K w ta ρ (Is ds)) (h2 : EvL K w tb ρ (Is es)) (h3 : EvD K w te ρ (Is d)) (k : Run K w tu (((ρ.set i (some (.own ds))).set j (some (.own es))).set l (some (.d d))) R N) :
    Run K w (tSeq (tPar3 i j l (tCons ta (tCons tb (tCons te tNil)))) tu) ρ R N := fun D σ H0 H E r n => by
  show ta σ H fun x H1 => tCons tb (tCons te tNil) σ H1 fun ys H2 => ∃ u v z, x :: ys = [u, v, z] ∧ tu D (((σ.set i (some u)).set j (some v)).set l (some z)) H2
  refine h1 σ H0 H E _ fun p xs ds1 H1 g1 s1 n1 e1 t1 => ?_
  cases (show ds1 = _ from s1)
  show tb σ H1 fun y H2 => tCons te tNil σ H2 fun zs H3 => ∃ u v z, V.ref p :: y :: zs = [u, v, z] ∧ tu D (((σ.set i (some u)).set j (some v)).set l (some z)) H3
  refine h2 σ H0 H1 (E.go g1) _ fun q ys es1 H2 g2 s2 n2 e2 t2 => ?_
  cases (show es1 = _ from s2)
  show te σ H2 fun z H3 => ∃ u v y, [V.ref p, V.ref q, z] = [u, v, y] ∧ tu D (((σ.set i (some u)).set j (some v)).set l (some y)) H3
  refine h3 σ H0 H2 ((E.go g1).go g2) _ fun x d1 H3 g3 s3 t3 => ?_
  cases (show d1 = _ from s3)
  exact ⟨.ref p, .ref q, x, rfl, k D _ H0 H3 ((((E.setown g1 n1 e1 t1 i).setown g2 n2 e2 t2 j).go g3).setd t3 l) r n⟩
/-- x is not None where x is only known to be None or some tuple -/
theorem ev_notNS {b : Bool} (ha : EvD K w ta ρ S) (h : ∀ d, S d → (d = .none ∨ ∃ l, d = .tuple l) ∧ noneB d = b) : EvD K w (tOp (fun x y H Q => y = .non ∧ Q (.bl (!decide (x = .non))) H) ta (tC .non)) ρ (Is (.bool (!b))) := ev_op ha ev_non fun a' b' ea eb x y H k tx ty Q q => by
  rw [eb] at ty
  obtain ⟨hd, hb⟩ := h a' ea
  refine ⟨ty.inv_non, q _ _ H (Go.refl k) ?_ (.bl _)⟩
  rw [← hb]
  rcases hd with rfl | ⟨l, rfl⟩
  · rw [tx.inv_non]; rfl
  · obtain ⟨p, xs, rfl, _⟩ := tx.inv_tup
    rfl
end
end Vd
set_option Elab.async false
set_option linter.all false
namespace Mt
/-! ### pairs of fractions as complex numbers -/
def cmu (z w : Rat × Rat) : Rat × Rat := (z.1 * w.1 - z.2 * w.2, z.1 * w.2 + z.2 * w.1)
def cc (z : Rat × Rat) : Rat × Rat := (z.1, -z.2)
def nr (z : Rat × Rat) : Rat := z.1 * z.1 + z.2 * z.2
abbrev c1 : Rat × Rat := (1, 0)
def np (z : Rat × Rat) : Nat → Rat × Rat
  | 0 => c1
  | n + 1 => cmu (np z n) z
def zp (z : Rat × Rat) (k : Int) : Rat × Rat := np (if 0 ≤ k then z else cc z) k.natAbs
theorem cmu_comm (z w : Rat × Rat) : cmu z w = cmu w z := by
  simp only [cmu, Prod.mk.injEq]
  refine ⟨by grind, by grind⟩
theorem cmu_assoc (z w v : Rat × Rat) : cmu (cmu z w) v = cmu z (cmu w v) := by
  simp only [cmu, Prod.mk.injEq]
  refine ⟨by grind, by grind⟩
theorem c1_cmu (z : Rat × Rat) : cmu c1 z = z := by
  cases z
  simp only [cmu, Prod.mk.injEq]
  refine ⟨by grind, by grind⟩
theorem cmu_c1 (z : Rat × Rat) : cmu z c1 = z := by rw [cmu_comm, c1_cmu]
theorem cc_cmu (z w : Rat × Rat) : cc (cmu z w) = cmu (cc z) (cc w) := by
  simp only [cmu, cc, Prod.mk.injEq]
  refine ⟨by grind, by grind⟩
theorem cc_cc (z : Rat × Rat) : cc (cc z) = z := by
  cases z
  simp only [cc, Prod.mk.injEq]
  refine ⟨trivial, by grind⟩
theorem cc_c1 : cc c1 = c1 := by decide +kernel
theorem nr_cmu (z w : Rat × Rat) : nr (cmu z w) = nr z * nr w := by
  simp only [cmu, nr]
  grind
theorem nr_cc (z : Rat × Rat) : nr (cc z) = nr z := by
  simp only [cc, nr]
  grind
theorem cmu_cc {z : Rat × Rat} (h : nr z = 1) : cmu z (cc z) = c1 := by
  simp only [cmu, cc, nr, Prod.mk.injEq] at *
  refine ⟨by grind, by grind⟩
theorem nr_np {z : Rat × Rat} (h : nr z = 1) : ∀ n, nr (np z n) = 1
  | 0 => by
    show nr c1 = 1
    decide +kernel
  | n + 1 => by
    show nr (cmu (np z n) z) = 1
    rw [nr_cmu, nr_np h n, h]
    decide +kernel
theorem nr_zp {z : Rat × Rat} (h : nr z = 1) (k : Int) : nr (zp z k) = 1 := by
  unfold zp
  split
  · exact nr_np h _
  · exact nr_np (by rw [nr_cc]; exact h) _
theorem np_cmu (z w : Rat × Rat) : ∀ n, np (cmu z w) n = cmu (np z n) (np w n)
  | 0 => (cmu_c1 _).symm
  | n + 1 => by
    show cmu (np (cmu z w) n) (cmu z w) = cmu (cmu (np z n) z) (cmu (np w n) w)
    rw [np_cmu z w n]
    simp only [cmu, Prod.mk.injEq]
    refine ⟨by grind, by grind⟩
theorem np_cc (z : Rat × Rat) : ∀ n, np (cc z) n = cc (np z n)
  | 0 => cc_c1.symm
  | n + 1 => by
    show cmu (np (cc z) n) (cc z) = cc (cmu (np z n) z)
    rw [np_cc z n, cc_cmu]
theorem zp_nat (z : Rat × Rat) (n : Nat) : zp z (n : Int) = np z n := by
  unfold zp
  rw [if_pos (by omega), Int.natAbs_natCast]
theorem zp_neg (z : Rat × Rat) (n : Nat) : zp z (-(n : Int)) = cc (np z n) := by
  unfold zp
  split
  · have : n = 0 := by omega
    subst this
    exact cc_c1.symm
  · rw [np_cc, Int.natAbs_neg, Int.natAbs_natCast]
theorem zp_negI (z : Rat × Rat) (k : Int) : zp z (-k) = cc (zp z k) := by
  rcases Int.le_total 0 k with h | h
  · obtain ⟨n, rfl⟩ := Int.eq_ofNat_of_zero_le h
    rw [zp_nat, zp_neg]
  · obtain ⟨n, hn⟩ := Int.eq_ofNat_of_zero_le (show 0 ≤ -k by omega)
    have : k = -(n : Int) := by omega
    subst this
    rw [zp_neg, Int.neg_neg, zp_nat, cc_cc]
theorem zp_suc {z : Rat × Rat} (h : nr z = 1) (k : Int) : zp z (k + 1) = cmu (zp z k) z := by
  rcases Int.le_total 0 k with hk | hk
  · obtain ⟨n, rfl⟩ := Int.eq_ofNat_of_zero_le hk
    rw [zp_nat, show (n : Int) + 1 = ((n + 1 : Nat) : Int) by omega, zp_nat]
    rfl
  · obtain ⟨n, hn⟩ := Int.eq_ofNat_of_zero_le (show 0 ≤ -k by omega)
    cases n with
    | zero =>
      have : k = 0 := by omega
      subst this
      show cmu c1 z = cmu c1 z
      rfl
    | succ m =>
      have e : k = -((m + 1 : Nat) : Int) := by omega
      subst e
      rw [zp_neg, show -((m + 1 : Nat) : Int) + 1 = -(m : Int) by omega, zp_neg]
      show cc (np z m) = cmu (cc (cmu (np z m) z)) z
      rw [cc_cmu, cmu_assoc, cmu_comm (cc z) z, cmu_cc h, cmu_c1]
theorem zp_addn {z : Rat × Rat} (h : nr z = 1) (a : Int) : ∀ n : Nat, zp z (a + n) = cmu (zp z a) (np z n)
  | 0 => by rw [show a + ((0 : Nat) : Int) = a by omega]; exact (cmu_c1 _).symm
  | n + 1 => by
    rw [show a + ((n + 1 : Nat) : Int) = (a + n) + 1 by omega, zp_suc h, zp_addn h a n, cmu_assoc]
    rfl
theorem zp_add {z : Rat × Rat} (h : nr z = 1) (a b : Int) : zp z (a + b) = cmu (zp z a) (zp z b) := by
  rcases Int.le_total 0 b with hb | hb
  · obtain ⟨n, rfl⟩ := Int.eq_ofNat_of_zero_le hb
    rw [zp_addn h, zp_nat]
  · obtain ⟨n, hn⟩ := Int.eq_ofNat_of_zero_le (show 0 ≤ -b by omega)
    have : b = -(n : Int) := by omega
    subst this
    have e := zp_addn h (a + -(n : Int)) n
    rw [show a + -(n : Int) + (n : Int) = a by omega] at e
    rw [e, zp_neg, cmu_assoc, cmu_cc (nr_np h n), cmu_c1]
theorem zp_mul {z : Rat × Rat} (h : nr z = 1) (a b : Int) : zp (zp z a) b = zp z (a * b) := by
  have key : ∀ n : Nat, np (zp z a) n = zp z (a * n) := fun n => by
    induction n with
    | zero => rw [show a * ((0 : Nat) : Int) = 0 by omega]; rfl
    | succ n ih =>
      rw [show a * ((n + 1 : Nat) : Int) = a * n + a by rw [Int.natCast_add, Int.mul_add]; omega, zp_add h, ← ih]
      rfl
  rcases Int.le_total 0 b with hb | hb
  · obtain ⟨n, rfl⟩ := Int.eq_ofNat_of_zero_le hb
    rw [zp_nat, key]
  · obtain ⟨n, hn⟩ := Int.eq_ofNat_of_zero_le (show 0 ≤ -b by omega)
    have : b = -(n : Int) := by omega
    subst this
    rw [zp_neg, key, Int.mul_neg, zp_negI]
theorem zp_cmu (z w : Rat × Rat) (k : Int) : zp (cmu z w) k = cmu (zp z k) (zp w k) := by
  unfold zp
  split
  · exact np_cmu _ _ _
  · rw [cc_cmu]; exact np_cmu _ _ _
theorem zp_one (z : Rat × Rat) : zp z 1 = z := c1_cmu z
/-! ### one turn for two steps -/
theorem bez (j k : Nat) : ∃ a b : Int, a * j + b * k = (Nat.gcd j k : Nat) := by
  induction j, k using Nat.gcd.induction with
  | H0 k => exact ⟨0, 1, by rw [Nat.gcd_zero_left]; omega⟩
  | H1 j k hj ih =>
    obtain ⟨a, b, e⟩ := ih
    rw [Nat.gcd_rec]
    refine ⟨b - a * ((k / j : Nat) : Int), a, ?_⟩
    have d : ((k % j : Nat) : Int) = (k : Int) - (j : Int) * ((k / j : Nat) : Int) := by
      have := Nat.mod_add_div k j
      have z : ((k % j + j * (k / j) : Nat) : Int) = (k : Int) := by rw [this]
      rw [Int.natCast_add, Int.natCast_mul] at z
      omega
    rw [d] at e
    grind
theorem gd {j k : Nat} (hj : 0 < j) : 0 < Nat.gcd j k ∧ j = Nat.gcd j k * (j / Nat.gcd j k) ∧ k = Nat.gcd j k * (k / Nat.gcd j k) :=
  ⟨Nat.gcd_pos_of_pos_left _ hj, (Nat.mul_div_cancel' (Nat.gcd_dvd_left j k)).symm, (Nat.mul_div_cancel' (Nat.gcd_dvd_right j k)).symm⟩
/-- the powers of both that should be one -/
def Sme (j k : Nat) (r s : Rat × Rat) : Prop := np r (k / Nat.gcd j k) = np s (j / Nat.gcd j k)
theorem np_np {z : Rat × Rat} (h : nr z = 1) (a b : Nat) : np (np z a) b = np z (a * b) := by
  have := zp_mul h a b
  rw [zp_nat, zp_nat, show (a : Int) * (b : Int) = ((a * b : Nat) : Int) by omega, zp_nat] at this
  exact this
/-- by any a j + b k = gcd the turn is r to a times s to b -/
theorem root_of {j k : Nat} (hj : 0 < j) {f : Rat × Rat} (hf : nr f = 1) {a b : Int} (e : a * j + b * k = (Nat.gcd j k : Nat)) : cmu (zp (np f (j / Nat.gcd j k)) a) (zp (np f (k / Nat.gcd j k)) b) = f := by
  obtain ⟨g0, ej, ek⟩ := gd (k := k) hj
  generalize Nat.gcd j k = g at *
  generalize j / g = u at *
  generalize k / g = v at *
  subst ej ek
  rw [← zp_nat, ← zp_nat, zp_mul hf, zp_mul hf, ← zp_add hf]
  have : (g : Int) * ((u : Int) * a + (v : Int) * b) = (g : Int) * 1 := by
    rw [Int.natCast_mul, Int.natCast_mul] at e
    grind
  have e1 := Int.eq_of_mul_eq_mul_left (by omega) this
  rw [e1, zp_one]
theorem root_is {j k : Nat} (hj : 0 < j) {r s : Rat × Rat} (hr : nr r = 1) (hs : nr s = 1) (h : Sme j k r s) {a b : Int} (e : a * j + b * k = (Nat.gcd j k : Nat)) :
    nr (cmu (zp r a) (zp s b)) = 1 ∧ np (cmu (zp r a) (zp s b)) (j / Nat.gcd j k) = r ∧ np (cmu (zp r a) (zp s b)) (k / Nat.gcd j k) = s := by
  unfold Sme at h
  obtain ⟨g0, ej, ek⟩ := gd (k := k) hj
  generalize Nat.gcd j k = g at *
  generalize j / g = u at *
  generalize k / g = v at *
  subst ej ek
  have : (g : Int) * ((u : Int) * a + (v : Int) * b) = (g : Int) * 1 := by
    rw [Int.natCast_mul, Int.natCast_mul] at e
    grind
  have e1 := Int.eq_of_mul_eq_mul_left (by omega) this
  rw [← zp_nat, ← zp_nat] at h
  refine ⟨?_, ?_, ?_⟩
  · rw [nr_cmu, nr_zp hr, nr_zp hs]; decide +kernel
  · rw [← zp_nat, zp_cmu, zp_mul hr, zp_mul hs, Int.mul_comm b, ← zp_mul hs, ← h, zp_mul hr, ← zp_add hr, show a * (u : Int) + (v : Int) * b = 1 by grind, zp_one]
  · rw [← zp_nat, zp_cmu, zp_mul hr, zp_mul hs, Int.mul_comm a, ← zp_mul hr, h, zp_mul hs, ← zp_add hs, show (u : Int) * a + b * (v : Int) = 1 by grind, zp_one]
/-! ### one turn for many steps -/
abbrev Stp := Nat × (Rat × Rat)
def SOk (zs : List Stp) : Prop := ∀ z ∈ zs, 0 < z.1 ∧ nr z.2 = 1
def Sm (a b : Stp) : Prop := Sme a.1 b.1 a.2 b.2
instance (a b : Stp) : Decidable (Sm a b) := by unfold Sm Sme; infer_instance
/-- (D, w) stands for all of zs: its powers are theirs, and what goes with all of zs goes with it -/
structure Rep (zs : List Stp) (D : Nat) (w : Rat × Rat) : Prop where
  pos : 0 < D
  un : nr w = 1
  dv : ∀ z ∈ zs, D ∣ z.1
  pw : ∀ z ∈ zs, np w (z.1 / D) = z.2
  go : ∀ c : Stp, 0 < c.1 → nr c.2 = 1 → (∀ z ∈ zs, Sm z c) → Sm (D, w) c
theorem rep_one {z : Stp} (h0 : 0 < z.1) (h1 : nr z.2 = 1) : Rep [z] z.1 z.2 := by
  refine ⟨h0, h1, fun y hy => ?_, fun y hy => ?_, fun c _ _ h => h z (List.mem_cons_self ..)⟩
  · rw [List.mem_singleton.mp hy]; exact Nat.dvd_refl _
  · rw [List.mem_singleton.mp hy, Nat.div_self h0]; exact c1_cmu _
theorem pow_more {u v w : Nat} {r s : Rat × Rat} (hr : nr r = 1) (hs : nr s = 1) (h : np r u = np s v) : np r (u * w) = np s (v * w) := by
  rw [← np_np hr, ← np_np hs, h]
theorem sm_up {j k g : Nat} {r s : Rat × Rat} (hj : 0 < j) (hr : nr r = 1) (hs : nr s = 1) (h : Sme j k r s) (g0 : 0 < g) (dj : g ∣ j) (dk : g ∣ k) : np r (k / g) = np s (j / g) := by
  have d := Nat.dvd_gcd dj dk
  obtain ⟨q0, ej, ek⟩ := gd (k := k) hj
  unfold Sme at h
  obtain ⟨m, em⟩ := d
  have m0 : 0 < m := by
    rcases Nat.eq_zero_or_pos m with z | z
    · rw [z, Nat.mul_zero] at em; omega
    · exact z
  have a1 : k / g = k / Nat.gcd j k * m := by
    rw [Nat.div_eq_of_eq_mul_right g0]
    calc k = Nat.gcd j k * (k / Nat.gcd j k) := ek
      _ = g * m * (k / Nat.gcd j k) := by rw [← em]
      _ = g * (k / Nat.gcd j k * m) := by rw [Nat.mul_assoc, Nat.mul_comm m]
  have a2 : j / g = j / Nat.gcd j k * m := by
    rw [Nat.div_eq_of_eq_mul_right g0]
    calc j = Nat.gcd j k * (j / Nat.gcd j k) := ej
      _ = g * m * (j / Nat.gcd j k) := by rw [← em]
      _ = g * (j / Nat.gcd j k * m) := by rw [Nat.mul_assoc, Nat.mul_comm m]
  rw [a1, a2]
  exact pow_more hr hs h
theorem rep_step {zs : List Stp} {D : Nat} {w : Rat × Rat} (R : Rep zs D w) (hz : SOk zs) {b : Stp} (b0 : 0 < b.1) (b1 : nr b.2 = 1) {f : Rat × Rat} (hf : nr f = 1) (h1 : np f (D / Nat.gcd D b.1) = w) (h2 : np f (b.1 / Nat.gcd D b.1) = b.2) :
    Rep (zs ++ [b]) (Nat.gcd D b.1) f := by
  obtain ⟨g0, eD, eb⟩ := gd (k := b.1) R.pos
  refine ⟨g0, hf, fun z m => ?_, fun z m => ?_, fun c c0 cu h => ?_⟩
  · rcases List.mem_append.mp m with m | m
    · exact Nat.dvd_trans (Nat.gcd_dvd_left _ _) (R.dv z m)
    · rw [List.mem_singleton.mp m]; exact Nat.gcd_dvd_right _ _
  · rcases List.mem_append.mp m with m | m
    · rw [← R.pw z m, ← h1, np_np hf]
      congr 1
      obtain ⟨q, eq⟩ := R.dv z m
      rw [eq, Nat.mul_div_cancel_left _ R.pos]
      obtain ⟨u, hu⟩ := Nat.gcd_dvd_left D b.1
      rw [show D / Nat.gcd D b.1 = u from Nat.div_eq_of_eq_mul_right g0 hu]
      apply Nat.div_eq_of_eq_mul_right g0
      rw [← Nat.mul_assoc, ← hu]
    · rw [List.mem_singleton.mp m]; exact h2
  · have s1 : Sm (D, w) c := R.go c c0 cu fun z m => h z (List.mem_append_left _ m)
    have s2 : Sm b c := h b (List.mem_append_right _ (List.mem_singleton.mpr rfl))
    have G0 : 0 < Nat.gcd (Nat.gcd D b.1) c.1 := Nat.gcd_pos_of_pos_left _ g0
    have dD : Nat.gcd (Nat.gcd D b.1) c.1 ∣ D := Nat.dvd_trans (Nat.gcd_dvd_left _ _) (Nat.gcd_dvd_left _ _)
    have db : Nat.gcd (Nat.gcd D b.1) c.1 ∣ b.1 := Nat.dvd_trans (Nat.gcd_dvd_left _ _) (Nat.gcd_dvd_right _ _)
    have dc : Nat.gcd (Nat.gcd D b.1) c.1 ∣ c.1 := Nat.gcd_dvd_right _ _
    have dg : Nat.gcd (Nat.gcd D b.1) c.1 ∣ Nat.gcd D b.1 := Nat.gcd_dvd_left _ _
    have p1 := sm_up R.pos R.un cu s1 G0 dD dc
    have p2 := sm_up b0 b1 cu s2 G0 db dc
    obtain ⟨x, y, e⟩ := bez D b.1
    have ef := root_of R.pos hf e
    rw [h1, h2] at ef
    show np f (c.1 / _) = np c.2 (Nat.gcd D b.1 / _)
    generalize Nat.gcd (Nat.gcd D b.1) c.1 = G at *
    obtain ⟨d1, e1⟩ := dD
    obtain ⟨d2, e2⟩ := db
    obtain ⟨d3, e3⟩ := dc
    obtain ⟨d4, e4⟩ := dg
    rw [show D / G = d1 from Nat.div_eq_of_eq_mul_right G0 e1, show c.1 / G = d3 from Nat.div_eq_of_eq_mul_right G0 e3] at p1
    rw [show b.1 / G = d2 from Nat.div_eq_of_eq_mul_right G0 e2, show c.1 / G = d3 from Nat.div_eq_of_eq_mul_right G0 e3] at p2
    rw [show c.1 / G = d3 from Nat.div_eq_of_eq_mul_right G0 e3, show Nat.gcd D b.1 / G = d4 from Nat.div_eq_of_eq_mul_right G0 e4]
    rw [← zp_nat, ← zp_nat] at p1 p2
    rw [← ef, ← zp_nat, ← zp_nat, zp_cmu, zp_mul R.un, zp_mul b1, Int.mul_comm x, Int.mul_comm y, ← zp_mul R.un, ← zp_mul b1, p1, p2, zp_mul cu, zp_mul cu, ← zp_add cu]
    congr 1
    rw [e4, e1, e2] at e
    rw [Int.natCast_mul, Int.natCast_mul, Int.natCast_mul] at e
    have : (G : Int) * ((d1 : Int) * x + (d2 : Int) * y) = (G : Int) * (d4 : Int) := by grind
    exact Int.eq_of_mul_eq_mul_left (by omega) this
/-- what stands for all of them makes any two alike -/
theorem rep_pair {zs : List Stp} {D : Nat} {w : Rat × Rat} (R : Rep zs D w) (hz : SOk zs) {a b : Stp} (ha : a ∈ zs) (hb : b ∈ zs) : Sm a b := by
  have a0 := (hz a ha).1
  obtain ⟨g0, ea, eb⟩ := gd (k := b.1) a0
  show np a.2 (b.1 / Nat.gcd a.1 b.1) = np b.2 (a.1 / Nat.gcd a.1 b.1)
  rw [← R.pw a ha, ← R.pw b hb, np_np R.un, np_np R.un]
  congr 1
  obtain ⟨u, hu⟩ := R.dv a ha
  obtain ⟨v, hv⟩ := R.dv b hb
  rw [hu, hv, Nat.mul_div_cancel_left _ R.pos, Nat.mul_div_cancel_left _ R.pos]
  have u0 : 0 < u := by
    rcases Nat.eq_zero_or_pos u with z | z
    · rw [z, Nat.mul_zero] at hu; omega
    · exact z
  have eg : Nat.gcd (D * u) (D * v) = D * Nat.gcd u v := Nat.gcd_mul_left ..
  rw [eg, Nat.mul_div_mul_left _ _ R.pos, Nat.mul_div_mul_left _ _ R.pos]
  obtain ⟨q0, eu, ev⟩ := gd (k := v) u0
  generalize Nat.gcd u v = q at *
  generalize u / q = u' at *
  generalize v / q = v' at *
  subst eu ev
  rw [Nat.mul_assoc, Nat.mul_assoc, Nat.mul_comm u' v']
end Mt
set_option Elab.async false
set_option linter.all false
set_option maxRecDepth 100000
set_option maxHeartbeats 4000000
namespace My
open PySem PySem.Spec PyProof.Rows L2 Vd Mt
/-- a turn's pair, its size -/
def Ub (n : Nat) (z : Pr) : Prop := ∃ p : Pt, PtB n p ∧ z = (cs p, sn p)
theorem Ub.mono {n m : Nat} {z : Pr} (h : Ub n z) (k : n ≤ m) : Ub m z := let ⟨p, hp, e⟩ := h; ⟨p, hp.mono k, e⟩
theorem Ub.rb {n : Nat} {z : Pr} (h : Ub n z) : Rb n z.1 ∧ Rb n z.2 := by
  obtain ⟨p, hp, rfl⟩ := h
  exact cs_rb hp.1 hp.2
theorem Ub.nr {n : Nat} {z : Pr} (h : Ub n z) : nr z = 1 := by
  obtain ⟨p, hp, rfl⟩ := h
  exact cs_sn hp.1
theorem Ub.mul {n m : Nat} {z v : Pr} (h : Ub n z) (k : Ub m v) : Ub (n + m) (cmu z v) := by
  obtain ⟨p, hp, rfl⟩ := h
  obtain ⟨q, hq, rfl⟩ := k
  refine ⟨p.mul q, hp.mul hq, ?_⟩
  rw [cs_mul hp.1 hq.1, sn_mul hp.1 hq.1]
  rfl
theorem Ub.cc {n : Nat} {z : Pr} (h : Ub n z) : Ub n (cc z) := by
  obtain ⟨p, hp, rfl⟩ := h
  exact ⟨p.conj, hp.conj, by rw [sn_conj]; rfl⟩
theorem Ub.one {n : Nat} (h : 0 < n) : Ub n c1 := ⟨Pt.one, PtB.one h, by rw [cs_one, sn_one]⟩
theorem np_pt {p : Pt} (h : p.Ok) : ∀ n, np (cs p, sn p) n = (cs (p.pow n), sn (p.pow n))
  | 0 => by show c1 = (cs Pt.one, sn Pt.one); rw [cs_one, sn_one]
  | n + 1 => by
    show cmu (np (cs p, sn p) n) (cs p, sn p) = (cs ((p.pow n).mul p), sn ((p.pow n).mul p))
    rw [np_pt h n, cs_mul (pow_ok h n) h, sn_mul (pow_ok h n) h]
    rfl
theorem Ub.np {n : Nat} {z : Pr} (h : Ub n z) (k : Nat) : Ub (n * k + 1) (np z k) := by
  obtain ⟨p, hp, rfl⟩ := h
  exact ⟨p.pow k, ⟨pow_ok hp.1 k, pow_size hp.2 (Nat.lt_succ_self _)⟩, np_pt hp.1 k⟩
theorem Ub.zp {n : Nat} {z : Pr} (h : Ub n z) (k : Int) : Ub (n * k.natAbs + 1) (zp z k) := by
  unfold Mt.zp
  split
  · exact h.np _
  · exact h.cc.np _
/-- a pair of which the squares add up to 1 is a turn's -/
theorem ub_of {n : Nat} {z : Pr} (h : nr z = 1) (h1 : Rb n z.1) (h2 : Rb n z.2) : Ub (n + n) z := by
  obtain ⟨x, y⟩ := z
  have dx := den0 x
  have dy := den0 y
  have hx : (x.num : Rat) = x * ((x.den : Int) : Rat) := by
    have e := rv_self x
    unfold rv at e
    have z := ne0 dx
    grind
  have hy : (y.num : Rat) = y * ((y.den : Int) : Rat) := by
    have e := rv_self y
    unfold rv at e
    have z := ne0 dy
    grind
  have h : x * x + y * y = 1 := h
  refine ⟨⟨x.num * (y.den : Int), y.num * (x.den : Int), (x.den : Int) * (y.den : Int)⟩, ⟨⟨Int.mul_pos dx dy, ?_⟩, ?_⟩, ?_⟩
  · dsimp only
    have e : (((x.num * (y.den : Int)) * (x.num * (y.den : Int)) + (y.num * (x.den : Int)) * (y.num * (x.den : Int)) : Int) : Rat) = ((((x.den : Int) * (y.den : Int)) * ((x.den : Int) * (y.den : Int)) : Int) : Rat) := by
      simp only [Rat.intCast_add, Rat.intCast_mul]
      rw [hx, hy]
      generalize (((x.den : Int) : Int) : Rat) = u
      generalize (((y.den : Int) : Int) : Rat) = v
      grind
    exact Rat.intCast_inj.mp e
  · show ((x.den : Int) * (y.den : Int)).natAbs < 2 ^ (n + n)
    exact wide_lt (rt_bd h1).2 (rt_bd h2).2
  · have a : cs ⟨x.num * (y.den : Int), y.num * (x.den : Int), (x.den : Int) * (y.den : Int)⟩ = x := by
      show rv (x.num * (y.den : Int)) ((x.den : Int) * (y.den : Int)) = x
      rw [← rv_mul dx dy, rv_self]
      unfold rv
      have := ne0 dy
      grind
    have b : sn ⟨x.num * (y.den : Int), y.num * (x.den : Int), (x.den : Int) * (y.den : Int)⟩ = y := by
      show rv (y.num * (x.den : Int)) ((x.den : Int) * (y.den : Int)) = y
      rw [Int.mul_comm (x.den : Int), ← rv_mul dy dx, rv_self]
      unfold rv
      have := ne0 dx
      grind
    rw [a, b]
theorem cs_sim {P Q : Pt} (h : P.Ok) (k : Q.Ok) (s : Sim P Q) : cs P = cs Q ∧ sn P = sn Q := by
  have a := ne0 h.pos
  have b := ne0 k.pos
  have e1 := congrArg (fun i : Int => (i : Rat)) s.1
  have e2 := congrArg (fun i : Int => (i : Rat)) s.2
  simp only [Rat.intCast_mul] at e1 e2
  unfold cs sn rv
  constructor <;> grind
/-- a root is no greater than its power -/
theorem ub_root {n m k : Nat} {f z : Pr} (hf : Ub m f) (hz : Ub n z) (e : np f k = z) (hk : 0 < k) : Ub n f := by
  obtain ⟨p, hp, rfl⟩ := hf
  obtain ⟨q, hq, rfl⟩ := hz
  rw [np_pt hp.1] at e
  have ec : cs (p.pow k) = cs q := congrArg Prod.fst e
  have d1 := tn_cs (pow_ok hp.1 k)
  have d2 := tn_cs hq.1
  rw [ec, ← d2, tn_pow hp.1] at d1
  have em : ((qn p).pow k).r = (tn q).m := congrArg Prod.snd d1
  rw [pow_r] at em
  have h0 : (qn p).r = (tn p).m := rfl
  rw [h0] at em
  have m0 := tn_pos hp.1
  have q0 := tn_le hq.1
  have qp := tn_pos hq.1
  refine ⟨qn p, ⟨qn_ok hp.1, ?_⟩, ?_⟩
  · show (tn p).m.natAbs < 2 ^ n
    have l1 : (tn p).m ≤ (tn p).m ^ k := by
      have := pow_le (r := (tn p).m) (by omega) (show 1 ≤ k from hk)
      rw [Int.pow_succ, Int.pow_zero, Int.one_mul] at this
      exact this
    have l2 := hq.2
    omega
  · obtain ⟨a, b⟩ := cs_sim (qn_ok hp.1) hp.1 (qn_sim hp.1)
    rw [a, b]
/-! ### what is told of two pairs -/
def dt (z v : Pr) : Rat := z.1 * v.1 + z.2 * v.2
theorem dt_rb {n m : Nat} {z v : Pr} (h : Rb n z.1 ∧ Rb n z.2) (k : Rb m v.1 ∧ Rb m v.2) : Rb (2 * (n + m) + 1) (dt z v) := (rb_add (rb_mul h.1 k.1) (rb_mul h.2 k.2)).mono (by omega)
theorem nr_rb {n : Nat} {z : Pr} (h : Rb n z.1 ∧ Rb n z.2) : Rb (4 * n + 1) (nr z) := (dt_rb h h).mono (by omega)
theorem cmu_rb {n m : Nat} {z v : Pr} (h : Rb n z.1 ∧ Rb n z.2) (k : Rb m v.1 ∧ Rb m v.2) : Rb (2 * (n + m) + 1) (cmu z v).1 ∧ Rb (2 * (n + m) + 1) (cmu z v).2 := by
  have a := dt_rb (z := z) (v := cc v) h ⟨k.1, neg_rb k.2⟩
  have b := dt_rb (z := (z.1, z.2)) (v := (v.2, v.1)) h ⟨k.2, k.1⟩
  refine ⟨?_, b⟩
  have e : dt z (cc v) = (cmu z v).1 := by
    simp only [dt, cc, cmu]
    grind
  rw [← e]
  exact a
theorem nr_pos {z : Pr} (h : z ≠ (0, 0)) : 0 < nr z := by
  obtain ⟨x, y⟩ := z
  have a : 0 ≤ x * x := by
    rcases Rat.le_total (a := 0) (b := x) with c | c
    · exact Rat.mul_nonneg c c
    · have := Rat.mul_nonneg (a := -x) (b := -x) (by grind) (by grind)
      grind
  have b : 0 ≤ y * y := by
    rcases Rat.le_total (a := 0) (b := y) with c | c
    · exact Rat.mul_nonneg c c
    · have := Rat.mul_nonneg (a := -y) (b := -y) (by grind) (by grind)
      grind
  show 0 < x * x + y * y
  by_cases hx : x = 0
  · by_cases hy : y = 0
    · exact absurd (by rw [hx, hy]) h
    · have : y * y ≠ 0 := fun z => hy (by rcases Rat.mul_eq_zero.mp z with c | c <;> exact c)
      grind
  · have : x * x ≠ 0 := fun z => hx (by rcases Rat.mul_eq_zero.mp z with c | c <;> exact c)
    grind
theorem nr_zero : nr ((0, 0) : Pr) = 0 := by decide +kernel
theorem nr_iff {z : Pr} : nr z = 0 ↔ z = (0, 0) := ⟨fun h => Classical.byContradiction fun n => by have := nr_pos n; rw [h] at this; exact absurd this (by decide), fun h => by rw [h]; exact nr_zero⟩
theorem inv_parts {x : Rat} (h : 0 < x) : x⁻¹.num = (x.den : Int) ∧ ((x⁻¹.den : Nat) : Int) = x.num := by
  have n0 : 0 < x.num := by
    rcases Int.lt_or_le 0 x.num with c | c
    · exact c
    · exfalso
      have a := rv_self x
      have d := ne0 (den0 x)
      have dp : (0 : Rat) < ((x.den : Int) : Rat) := Rat.intCast_lt_intCast.mpr (den0 x)
      have np : ((x.num : Int) : Rat) ≤ 0 := Rat.intCast_le_intCast.mpr c
      have e : ((x.num : Int) : Rat) = x * ((x.den : Int) : Rat) := by
        unfold rv at a
        grind
      have := Rat.mul_pos h dp
      grind
  have e : x⁻¹ = rv (x.den : Int) x.num := by
    have a := rv_self x
    unfold rv at a ⊢
    have b := ne0 (den0 x)
    have c := ne0 n0
    grind
  have r := red_rv (n := (x.den : Int)) n0
  rw [← e] at r
  have g : gc (x.den : Int) x.num = 1 := by
    have z := x.reduced
    unfold gc
    rw [Int.natAbs_natCast, Nat.gcd_comm]
    have z' : Nat.gcd x.num.natAbs x.den = 1 := z
    rw [z']
    rfl
  rw [red_one g] at r
  simp only [Prod.mk.injEq] at r
  exact ⟨r.1.symm, r.2.symm⟩
theorem inv_rb {n : Nat} {x : Rat} (h : 0 < x) (k : Rb n x) : Rb n x⁻¹ := by
  obtain ⟨a, b⟩ := inv_parts h
  refine ⟨?_, ?_⟩
  · rw [a, Int.natAbs_natCast]; exact k.2
  · have := k.1
    omega
theorem rt_inv {x : Rat} (h : 0 < x) : fr (x.den : Int) x.num = rt x⁻¹ := by
  obtain ⟨a, b⟩ := inv_parts h
  show fr _ _ = fr _ _
  rw [a, b]
/-- the turn that leads from one pair to another one -/
def stp (z v : Pr) : Pr := (dt z v * (nr z)⁻¹, dt (z.2, -z.1) v * (nr z)⁻¹)
theorem stp_cmu {z v : Pr} (h : z ≠ (0, 0)) : cmu (cc z) (stp z v) = cc v := by
  have p := nr_pos h
  have q : nr z ≠ 0 := by grind
  have e : nr z * (nr z)⁻¹ = 1 := Rat.mul_inv_cancel _ q
  obtain ⟨x, y⟩ := z
  obtain ⟨s, t⟩ := v
  have e : (x * x + y * y) * (nr (x, y))⁻¹ = 1 := e
  simp only [cmu, cc, stp, dt, Prod.mk.injEq]
  generalize (nr (x, y))⁻¹ = u at *
  constructor <;> grind
theorem stp_nr {z v : Pr} (h : z ≠ (0, 0)) (e : nr z = nr v) : nr (stp z v) = 1 := by
  have p := nr_pos h
  have a := congrArg nr (stp_cmu (v := v) h)
  rw [nr_cmu, nr_cc, nr_cc, ← e] at a
  have q : nr z ≠ 0 := by grind
  have b : nr z * nr (stp z v) = nr z * 1 := by grind
  grind
theorem stp_rb {n m : Nat} {z v : Pr} (h : z ≠ (0, 0)) (h1 : Rb n z.1 ∧ Rb n z.2) (k : Rb m v.1 ∧ Rb m v.2) : Rb (2 * (n + m) + 1 + (4 * n + 1)) (stp z v).1 ∧ Rb (2 * (n + m) + 1 + (4 * n + 1)) (stp z v).2 :=
  ⟨rb_mul (dt_rb h1 k) (inv_rb (nr_pos h) (nr_rb h1)), rb_mul (dt_rb (z := (z.2, -z.1)) ⟨h1.2, neg_rb h1.1⟩ k) (inv_rb (nr_pos h) (nr_rb h1))⟩
end My
set_option Elab.async false
set_option linter.all false
set_option maxRecDepth 100000
set_option maxHeartbeats 4000000
namespace My
open PySem PySem.Spec PyProof.Rows L2 Vd Mt
/-! ### two waves alike by a turn -/
def bB : Nat := 1000000
abbrev stD (a : Stp) : PyData := .tuple [.int (a.1 : Int), pD a.2]
theorem eqv_pDD (p q : Pr) : PyData.eqv (pD p) (pD q) = decide (p = q) := by
  show (PyData.eqv (rt p.1) (rt q.1) && (PyData.eqv (rt p.2) (rt q.2) && true)) = _
  rw [eqv_rt, eqv_rt, Bool.and_true]
  by_cases h : p = q
  · subst h
    simp
  · rw [decide_eq_false h]
    by_cases a : p.1 = q.1
    · rw [decide_eq_true a, decide_eq_false (fun b => h (Prod.ext a b))]
      rfl
    · rw [decide_eq_false a]
      rfl
abbrev gp (L : List Pr) (j : Nat) : Pr := L.getD j (0, 0)
def zsL (L M : List Pr) : List Stp := (harm L).map fun i => (1 + i, stp (gp L i) (gp M i))
def hbad (L M : List Pr) : Option Nat := (List.range (max L.length M.length)).find? fun j => decide (nr (gp L j) ≠ nr (gp M j))
abbrev stpAt (zs : List Stp) (i : Nat) : Stp := zs.getD i (0, c1)
noncomputable def tbad (zs : List Stp) : Option (List Nat) := (CL zs.length 2).find? fun ks => !decide (Sm (stpAt zs (ks.getD 0 0)) (stpAt zs (ks.getD 1 0)))
noncomputable def ptg (k k' : Rat) (L M : List Pr) : PyData :=
  if k = k' then
    match hbad L M with
    | some j => .tuple [.str "harmonic", .int (1 + (j : Int))]
    | none => match tbad (zsL L M) with
      | some ks => .tuple [.str "turn", .int ((stpAt (zsL L M) (ks.getD 0 0)).1 : Int), .int ((stpAt (zsL L M) (ks.getD 1 0)).1 : Int)]
      | none => .none
  else .tuple [.str "middle"]
def AL (L M : List Pr) : Prop := (∀ j, nr (gp L j) = nr (gp M j)) ∧ (zsL L M).Pairwise Sm
theorem gp_ge {L : List Pr} {j : Nat} (h : L.length ≤ j) : gp L j = (0, 0) := by
  unfold gp
  rw [List.getD_eq_getElem?_getD, List.getElem?_eq_none h]
  rfl
theorem hbad_none {L M : List Pr} : hbad L M = none ↔ ∀ j, nr (gp L j) = nr (gp M j) := by
  unfold hbad
  rw [List.find?_eq_none]
  constructor
  · intro h j
    rcases Nat.lt_or_ge j (max L.length M.length) with c | c
    · have := h j (List.mem_range.mpr c)
      simpa using this
    · rw [gp_ge (by omega), gp_ge (by omega)]
  · intro h j _
    rw [decide_eq_false (fun z => z (h j))]
    exact Bool.false_ne_true
theorem mem_harm {L : List Pr} {i : Nat} : i ∈ harm L ↔ gp L i ≠ (0, 0) := by
  unfold harm
  rw [List.mem_filter, List.mem_range]
  constructor
  · rintro ⟨_, h⟩
    exact of_decide_eq_true h
  · intro h
    refine ⟨?_, decide_eq_true h⟩
    rcases Nat.lt_or_ge i L.length with c | c
    · exact c
    · exact absurd (gp_ge c) h
theorem nz_iff {L M : List Pr} (h : ∀ j, nr (gp L j) = nr (gp M j)) (j : Nat) : gp L j = (0, 0) ↔ gp M j = (0, 0) := by
  rw [← nr_iff, ← nr_iff, h]
theorem zs_ok {L M : List Pr} (h : ∀ j, nr (gp L j) = nr (gp M j)) : SOk (zsL L M) := fun z hz => by
  obtain ⟨i, hi, rfl⟩ := List.mem_map.mp hz
  exact ⟨by dsimp only; omega, stp_nr (mem_harm.mp hi) (h i)⟩
/-! ### what changes nothing -/
theorem can {a c f : Rat} (q : a ≠ 0) (e : a * c = a * f) : c = f := by
  have h := Rat.mul_inv_cancel _ q
  generalize a⁻¹ = b at h
  have e2 := congrArg (b * ·) e
  have e2 : b * (a * c) = b * (a * f) := e2
  grind
theorem stp_is {z v x : Pr} (h : z ≠ (0, 0)) (e : cmu (cc z) x = cc v) : x = stp z v := by
  have a := stp_cmu (v := v) h
  rw [← e] at a
  have b := congrArg (cmu z) a
  rw [← cmu_assoc, ← cmu_assoc] at b
  have p := nr_pos h
  have q : nr z ≠ 0 := by grind
  obtain ⟨s, t⟩ := z
  obtain ⟨c, d⟩ := x
  generalize stp (s, t) v = y at *
  obtain ⟨f, g⟩ := y
  simp only [cmu, cc, nr, Prod.mk.injEq] at *
  obtain ⟨b1, b2⟩ := b
  constructor
  · exact can q (by grind)
  · exact can q (by grind)
theorem cc_inj {z v : Pr} (h : cc z = cc v) : z = v := by rw [← cc_cc z, h, cc_cc]
theorem cmu_cancel {z v s : Pr} (h : nr s = 1) (e : cmu z s = cmu v s) : z = v := by
  have := congrArg (fun x => cmu x (cc s)) e
  simp only [cmu_assoc, cmu_cc h, cmu_c1] at this
  exact this
theorem stp_sym {z v : Pr} (h : z ≠ (0, 0)) (e : nr z = nr v) : stp v z = cc (stp z v) := by
  have hv : v ≠ (0, 0) := fun c => h (nr_iff.mp (by rw [e, c]; exact nr_zero))
  refine (stp_is hv ?_).symm
  have a := stp_cmu (v := v) h
  rw [← a, cmu_assoc, cmu_cc (stp_nr h e), cmu_c1]
theorem sm_cc {a b : Stp} : Sm (a.1, cc a.2) (b.1, cc b.2) ↔ Sm a b := by
  unfold Sm Sme
  dsimp only
  rw [np_cc, np_cc]
  exact ⟨cc_inj, congrArg cc⟩
theorem al_symm {L M : List Pr} (h : AL L M) : AL M L := by
  obtain ⟨h1, h2⟩ := h
  refine ⟨fun j => (h1 j).symm, ?_⟩
  have e : zsL M L = (zsL L M).map fun a => (a.1, cc a.2) := by
    unfold zsL
    rw [harm_congr fun j => (nz_iff h1 j).symm, List.map_map]
    apply List.map_congr_left
    intro i hi
    show (1 + i, stp (gp M i) (gp L i)) = (1 + i, cc (stp (gp L i) (gp M i)))
    rw [stp_sym (mem_harm.mp hi) (h1 i)]
  rw [e, List.pairwise_map]
  exact h2.imp fun h => sm_cc.mpr h
theorem al_comm {L M : List Pr} : AL L M ↔ AL M L := ⟨al_symm, al_symm⟩
/-- turned by s -/
def turnC (L : List Pr) (s : Pr) : List Pr := L.mapIdx fun j p => cc (cmu (cc p) (np s (j + 1)))
theorem cc_zero : cc ((0, 0) : Pr) = (0, 0) := by decide +kernel
theorem cmu_zero (s : Pr) : cmu ((0, 0) : Pr) s = (0, 0) := by
  simp only [cmu, Prod.mk.injEq]
  refine ⟨by grind, by grind⟩
theorem turnC_len (L : List Pr) (s : Pr) : (turnC L s).length = L.length := by unfold turnC; rw [List.length_mapIdx]
theorem turnC_get (L : List Pr) (s : Pr) (j : Nat) : gp (turnC L s) j = cc (cmu (cc (gp L j)) (np s (j + 1))) := by
  unfold gp turnC
  rw [List.getD_eq_getElem?_getD, List.getD_eq_getElem?_getD, List.getElem?_mapIdx]
  cases L[j]? with
  | none =>
    show ((0, 0) : Pr) = cc (cmu (cc (0, 0)) _)
    rw [cc_zero, cmu_zero, cc_zero]
  | some q => rfl
theorem sm_turn {a b : Stp} {s : Pr} (hs : nr s = 1) : Sm (a.1, cmu a.2 (cc (np s a.1))) (b.1, cmu b.2 (cc (np s b.1))) ↔ Sm a b := by
  unfold Sm Sme
  dsimp only
  rw [np_cmu, np_cmu, np_cc, np_cc, np_np hs, np_np hs]
  have e : a.1 * (b.1 / Nat.gcd a.1 b.1) = b.1 * (a.1 / Nat.gcd a.1 b.1) := by
    rw [← Nat.mul_div_assoc _ (Nat.gcd_dvd_right _ _), ← Nat.mul_div_assoc _ (Nat.gcd_dvd_left _ _), Nat.mul_comm]
  rw [e]
  exact ⟨cmu_cancel (by rw [nr_cc]; exact nr_np hs _), fun h => by rw [h]⟩
theorem al_turn {L M : List Pr} {s : Pr} (hs : nr s = 1) : AL (turnC L s) M ↔ AL L M := by
  have n1 : ∀ j, nr (gp (turnC L s) j) = nr (gp L j) := fun j => by rw [turnC_get, nr_cc, nr_cmu, nr_cc, nr_np hs, Rat.mul_one]
  have nz := nz_iff n1
  have e : zsL (turnC L s) M = (zsL L M).map fun a => (a.1, cmu a.2 (cc (np s a.1))) := by
    unfold zsL
    rw [harm_congr nz, List.map_map]
    apply List.map_congr_left
    intro i hi
    have hi' := mem_harm.mp hi
    show (1 + i, stp (gp (turnC L s) i) (gp M i)) = (1 + i, cmu (stp (gp L i) (gp M i)) (cc (np s (1 + i))))
    refine congrArg (Prod.mk _) (stp_is (fun z => hi' ((nz i).mp z)) ?_).symm
    rw [turnC_get, cc_cc, Nat.add_comm 1 i, cmu_comm (stp _ _), ← cmu_assoc, cmu_assoc _ (np s (i + 1)), cmu_cc (nr_np hs _), cmu_c1]
    exact stp_cmu hi'
  unfold AL
  rw [e, List.pairwise_map]
  have e2 : (zsL L M).Pairwise (fun a b => Sm (a.1, cmu a.2 (cc (np s a.1))) (b.1, cmu b.2 (cc (np s b.1)))) ↔ (zsL L M).Pairwise Sm := ⟨fun h => h.imp fun h => (sm_turn hs).mp h, fun h => h.imp fun h => (sm_turn hs).mpr h⟩
  rw [e2]
  simp only [n1]
theorem al_self (L : List Pr) : AL L L := by
  refine ⟨fun _ => rfl, ?_⟩
  unfold zsL
  rw [List.pairwise_map]
  have one : ∀ i ∈ harm L, stp (gp L i) (gp L i) = c1 := fun i hi => (stp_is (mem_harm.mp hi) (cmu_c1 _)).symm
  have np1 : ∀ n, np c1 n = c1 := fun n => by
    induction n with
    | zero => rfl
    | succ n ih => show cmu (np c1 n) c1 = c1; rw [ih, c1_cmu]
  refine List.Pairwise.imp_of_mem (R := fun _ _ => True) (fun {a b} ha hb _ => ?_) (List.pairwise_of_forall fun _ _ => trivial)
  show np (stp (gp L a) (gp L a)) _ = np (stp (gp L b) (gp L b)) _
  rw [one a ha, one b hb, np1, np1]
theorem find_CL {n j : Nat} {ks : List Nat} {p : List Nat → Bool} (hks : plc n 2 j = some ks) (hb : p ks = true) (ha : ∀ i, i < j → ∀ ks', plc n 2 i = some ks' → p ks' = false) (hj : j < plcN n 2) : (CL n 2).find? p = some ks := by
  unfold CL
  rw [List.find?_map]
  have e : (List.range (plcN n 2)).find? (p ∘ fun i => (plc n 2 i).getD []) = some j := by
    rw [List.find?_range_eq_some]
    refine ⟨by show p ((plc n 2 j).getD []) = true; rw [hks]; exact hb, List.mem_range.mpr hj, fun i hi => ?_⟩
    obtain ⟨ks', h'⟩ := plcN_some (n := n) (.inl rfl) (Nat.lt_trans hi hj)
    show (!p ((plc n 2 i).getD [])) = true
    rw [h']
    show (!p ks') = true
    rw [ha i hi ks' h']
    rfl
  rw [e]
  show some ((plc n 2 j).getD []) = some ks
  rw [hks]
  rfl
theorem find_CLn {n : Nat} {p : List Nat → Bool} (ha : ∀ i, i < plcN n 2 → ∀ ks', plc n 2 i = some ks' → p ks' = false) : (CL n 2).find? p = none := by
  rw [List.find?_eq_none]
  intro ks hm
  unfold CL at hm
  obtain ⟨i, hi, rfl⟩ := List.mem_map.mp hm
  have hi := List.mem_range.mp hi
  obtain ⟨ks', h'⟩ := plcN_some (n := n) (.inl rfl) hi
  rw [h']
  show ¬ p ks' = true
  rw [ha i hi ks' h']
  exact Bool.false_ne_true
noncomputable def alB (k k' : Rat) (L M : List Pr) : Bool := decide (k = k') && ((hbad L M).isNone && (tbad (zsL L M)).isNone)
theorem ptg_or (k k' : Rat) (L M : List Pr) : ptg k k' L M = .none ∨ ∃ l, ptg k k' L M = .tuple l := by
  unfold ptg
  split
  · split
    · exact .inr ⟨_, rfl⟩
    · split
      · exact .inr ⟨_, rfl⟩
      · exact .inl rfl
  · exact .inr ⟨_, rfl⟩
theorem ptg_none (k k' : Rat) (L M : List Pr) : noneB (ptg k k' L M) = alB k k' L M := by
  unfold ptg alB
  by_cases h : k = k'
  · rw [if_pos h, decide_eq_true h]
    cases hbad L M with
    | some j => rfl
    | none =>
      cases tbad (zsL L M) with
      | some ks => rfl
      | none => rfl
  · rw [if_neg h, decide_eq_false h]
    rfl
theorem stpAt_get {zs : List Stp} {i : Nat} (h : i < zs.length) : stpAt zs i = zs[i] := by
  unfold stpAt
  rw [List.getD_eq_getElem?_getD, List.getElem?_eq_getElem h]
  rfl
theorem tbad_none {zs : List Stp} : tbad zs = none ↔ zs.Pairwise Sm := by
  unfold tbad
  rw [List.find?_eq_none, List.pairwise_iff_getElem]
  constructor
  · intro h i j hi hj hij
    have := h [i, j] ((mem_CL (.inl rfl)).mpr (.inl ⟨rfl, i, j, rfl, hij, hj⟩))
    have z : ¬ (!decide (Sm (stpAt zs i) (stpAt zs j))) = true := this
    rw [stpAt_get hi, stpAt_get hj] at z
    exact Classical.byContradiction fun n => z (by rw [decide_eq_false n]; rfl)
  · intro h ks hk
    rcases (mem_CL (.inl rfl)).mp hk with ⟨_, i, j, rfl, hij, hj⟩ | ⟨h, _⟩
    · show ¬ (!decide (Sm (stpAt zs i) (stpAt zs j))) = true
      rw [stpAt_get (Nat.lt_trans hij hj), stpAt_get hj, decide_eq_true (h i j (Nat.lt_trans hij hj) hj hij)]
      exact Bool.false_ne_true
    · exact absurd h (by decide)
theorem alB_iff {k k' : Rat} {L M : List Pr} : alB k k' L M = true ↔ k = k' ∧ AL L M := by
  unfold alB AL
  rw [Bool.and_eq_true, Bool.and_eq_true, decide_eq_true_iff, Option.isNone_iff_eq_none, Option.isNone_iff_eq_none, hbad_none, tbad_none]
theorem alB_eq {k k' l l' : Rat} {L M N O : List Pr} (h : (k = k' ∧ AL L M) ↔ (l = l' ∧ AL N O)) : alB k k' L M = alB l l' N O := Bool.eq_iff_iff.mpr (alB_iff.trans (h.trans alB_iff.symm))
/-- a wave that is drawn -/
def WvS (d : PyData) : Prop := ∃ (k : Rat) (L : List Pr), d = wD k L ∧ Wv L ∧ Rb 21 k ∧ Sz 43 L
theorem wv_trim {L : List Pr} (h : L.length ≤ 8) : Wv (trimR L) := ⟨Nat.le_trans (trimR_len L) h, trimR_ends L⟩
end My
set_option Elab.async false
set_option linter.all false
set_option maxRecDepth 100000
set_option maxHeartbeats 4000000
namespace Mt
end Mt
namespace Vd
open PySem PySem.Spec PyProof.Rows L2 Mt
end Vd
namespace My
open PySem PySem.Spec PyProof.Rows L2 Vd Mt
end My
set_option Elab.async false
set_option linter.all false
set_option maxRecDepth 100000
set_option maxHeartbeats 4000000
/-! lists that are locked when they are made: as data (lz); comb; & 3 -/
namespace L2
open PySem PySem.Spec PyProof.Rows
/-- name = e, where what is new is locked at once -/
def tAsgF (te : TE) (i : Nat) : TS := fun D σ H => te σ H fun x H1 => ∃ a u, H1 a = some u ∧ Mut (some u) ∧ ∀ o, D.nx (σ.set i (some x)) (upd H1 a (.frz o u))
section
variable {X : Cx}
theorem ps_frz {st : Stmt} {te : TE} {i : Nat} (h : PS X st (tAsg te (gName i))) : PS X st (tAsgF te i) := ⟨fun pins s σ H D I q => by
  let D' : Ends := { D with nx := fun σ' H' => ∃ a u, H' a = some u ∧ Mut (some u) ∧ ∀ o, D.nx σ' (upd H' a (.frz o u)) }
  refine thn (h.run pins s σ H D' I q) fun f s' z => ?_
  cases f with
  | next =>
    obtain ⟨σ', H', I', a, u, hu, mu, q1⟩ := z
    obtain ⟨od, J⟩ := I'.lock hu mu
    exact ⟨σ', _, J, q1 od⟩
  | brk => exact z
  | cont => exact z
  | ret u => exact z⟩
/-- math.comb -/
def rComb : List V → Hp → VK → Prop := fun xs H Q => ∃ a b : Int, xs = [.int a, .int b] ∧ 0 ≤ a ∧ a ≤ 1000 ∧ 0 ≤ b ∧ b ≤ 1000 ∧ Q (.int (PySem.W.mcComb a b)) H
theorem cr_comb : CallR X (.builtin "math.comb") rComb := by
  intro pins s σ H vs us Q I r h
  obtain ⟨a, b, rfl, h0, h1, h2, h3, q⟩ := h
  obtain ⟨t, u, rfl⟩ := Vals.int2 r
  exact PySem.W.mc_comb h0 h2 (by omega) (.inl (by omega)) fun _ => ⟨.int _, H, I.tok _, ⟨_, rfl⟩, q⟩
/-- i & 3 -/
theorem op_and4 : OpR X (binaryOp .BitAnd) (rI (fun _ j => j = 3) fun i _ => .int (i % 4)) := by
  intro pins s σ H x y v u Q I rx ry h
  obtain ⟨i, j, rfl, rfl, rfl, q⟩ := h
  exact op_andM pins s σ H _ _ v u Q I rx ry ⟨i, 2, rfl, rfl, q⟩
end
end L2
namespace Vd
open PySem PySem.Spec PyProof.Rows L2 Mt
section
variable {K : Fr} {w : WA} {ρ : Rho} {te ta tb tl : TE} {tr : TA} {S : PyData → Prop} {d : PyData} {ds es : List PyData} {R : Rt} {N : Rho → Prop} {tu : TS} {g : TG} {vs : List Nat} {H0 : Bs} {H H' H1 : Hp} {σ : L2.St} {as : List Ar} {Ss Ss2 : List PyData → Prop} {tt : TT}
theorem dic_nn : ∀ {kvs : List (Key × V)} {es : List (PyData × PyData)}, DicD kvs es → ∀ p ∈ es, p.1 ≠ .none
  | _, _, .nil, _, h => nomatch h
  | _, _, .cons (k := k) h, p, hp => by
    rcases List.mem_cons.mp hp with rfl | hp
    · rcases k with k | k <;> exact fun z => nomatch z
    · exact dic_nn h p hp
theorem Tp.inv_lz {v : V} (h : Tp K H v (Vd.lz ds)) : ∃ a o xs, v = .ref a ∧ H a = some (.frz o (.lst xs)) ∧ TpAll K H xs ds := by
  unfold Vd.lz at h
  cases h with
  | lst hs hn ha =>
    cases ha with
    | cons h1 h2 =>
      unfold mk at h1
      cases h1 with
      | dic _ hd => exact absurd rfl (dic_nn hd _ List.mem_cons_self)
  | lz hs ha => exact ⟨_, _, _, rfl, hs, ha⟩
/-- what is new is locked -/
theorem go_lock {p : Addr} {xs : List V} {o : HO} (g : Go w H H1) (h0 : H p = none) (h1 : H1 p = some (.lst xs)) (nw : w ≠ some p) : Go w H (upd H1 p o) :=
  ⟨g.1.chg h0 (lst_no h1), fun b z => by
    obtain ⟨x, y, t, k⟩ := g.2 b z
    exact ⟨x, y, t, by rw [upd_ne (fun q => nw (by rw [← q]; exact z))]; exact k⟩⟩
/-- a new list, locked: data -/
theorem ev_lz (h : EvL K w te ρ Ss) : EvD K w (tFrz te) ρ (fun d => ∃ ds, d = lz ds ∧ Ss ds) := fun σ H0 H E Q q =>
  h σ H0 H E _ fun p xs ds H1 g1 s1 n1 h1 t1 => ⟨p, .lst xs, rfl, h1, True.intro, fun o => by
    have nw := nw_of (H' := H) E.wok n1
    exact q _ _ _ (go_lock g1 n1 h1 nw) ⟨ds, rfl, s1⟩ (.lz upd_same (t1.wr h1))⟩
theorem ev_lzD (h : EvL K w te ρ (Is ds)) : EvD K w (tFrz te) ρ (Is (lz ds)) := (ev_lz h).mono fun d ⟨es, e, e2⟩ => by rw [e, show es = _ from e2]; rfl
/-- name = a new list, locked -/
theorem run_setF {i : Nat} (h : EvL K w te ρ Ss) (k : ∀ ds, Ss ds → Run K w tu (ρ.set i (some (.d (lz ds)))) R N) : Run K w (tSeq (tAsgF te i) tu) ρ R N := fun D σ H0 H E r n =>
  h σ H0 H E _ fun p xs ds H1 g1 s1 n1 h1 t1 => ⟨p, .lst xs, h1, True.intro, fun o => by
    have nw := nw_of (H' := H) E.wok n1
    exact k ds s1 D _ H0 _ ((E.go (go_lock g1 n1 h1 nw)).setd (Tp.lz upd_same (t1.wr h1)) i) r n⟩
theorem run_setFD {i : Nat} (h : EvL K w te ρ (Is ds)) (k : Run K w tu (ρ.set i (some (.d (lz ds)))) R N) : Run K w (tSeq (tAsgF te i) tu) ρ R N := run_setF h fun es e => by
  cases (show es = _ from e)
  exact k
/-- t[n], t a locked list -/
theorem ev_ixZ {n : Int} (ha : EvD K w ta ρ (Is (lz ds))) (hb : EvD K w tb ρ (Is (.int n))) (hx : atI ds n = some d := by rfl) : EvD K w (tOp (rIxL K) ta tb) ρ (Is d) := fun σ H0 H E Q q =>
  ha σ H0 H E _ fun v d1 H1 g1 s1 t1 => hb σ H0 H1 (E.go g1) _ fun u d2 H2 g2 s2 t2 => by
    cases (show d1 = _ from s1)
    cases (show d2 = _ from s2)
    obtain ⟨a, o, xs, rfl, hf, al⟩ := t1.inv_lz
    rw [t2.inv_int]
    have al2 := al.go g1.2 g2
    obtain ⟨j, x, _, hd, hv, hxx⟩ := atI_map al2.length hx
    obtain ⟨x', e', tx⟩ := al2.get hd
    rw [hv] at e'; cases e'
    exact ⟨a, xs, n, x, rfl, rfl, .inl (.inr ⟨o, frz_go g1.2 g2 hf⟩), hxx, q _ _ H2 (g1.trans g2) rfl tx⟩
/-- [f(x, y) for x, y in zip(a new list, a new list)] -/
theorem el_mapZLL (f : Nat → PyData) (h : EvL K w ta ρ (Is ds)) (h2 : EvL K w tb ρ (Is es)) (hle : es.length = ds.length) (hz : ds.length ≤ 1000)
    (ht : ∀ (j : Nat) d e, ds[j]? = some d → es[j]? = some e → ∃ ρ1, Tc K w g vs (.tuple [d, e]) (wipeR ρ vs) ρ1 ∧ EvD K w te ρ1 (Is (f j))) :
    EvL K w (tLc (iZm K (tCons ta (tCons tb tNil))) g tYes te vs) ρ (Is ((List.range ds.length).map f)) := fun σ H0 H E Q q =>
  h σ H0 H E _ fun a xs d1 H1 g1 s1 n1 h1 al1 => by
    cases (show d1 = _ from s1)
    refine h2 σ H0 H1 (E.go g1) _ fun b ys e1 H2 g2 s2 n2 h2 bl => ?_
    cases (show e1 = _ from s2)
    have E2 := (E.go g1).go g2
    have na : w ≠ some a := nw_of (H' := H) E.wok n1
    have nb : w ≠ some b := nw_of (H' := H1) g1.2 n2
    have sq : SqL K H2 a xs := .inl (.inl (g2.1 a _ na h1))
    have sb : SqL K H2 b ys := .inl (.inl h2)
    have al := al1.go g1.2 g2
    have hn : ds.length = min xs.length ys.length := by rw [al.length, bl.length, hle]; omega
    refine ⟨false, false, a, b, xs, ys, rfl, sq, sb, fun Dl hD => ?_⟩
    refine lc_data ((walk_m (K := K) (t := false) (u := false) (a := a) (b := b) (xs := xs) (ys := ys) hn).mono (G' := fun H => (SqL K H a xs ∧ TpAll K H xs ds) ∧ SqL K H b ys ∧ TpAll K H ys es) (fun H h => ⟨h.1.1, h.2.1⟩) fun i H x H' _ _ y => y) (fun i => .tuple [ds.getD i .none, es.getD i .none]) (fun i H x H' hi wk hG hY => ?_) (fun H H' wk hG gg => ⟨⟨sqL_kp gg.1 na hG.1.1, hG.1.2.go wk gg⟩, sqL_kp gg.1 nb hG.2.1, hG.2.2.go wk gg⟩) (fun _ => true) f (fun i hi => ?_) (by omega) E2 ⟨⟨sq, al⟩, sb, bl⟩ hD fun zs H' gg hz tz => ?_
    · obtain ⟨T, x1, y1, rfl, hT, rfl, hx, hy⟩ := hY
      obtain ⟨d1, hd1, td⟩ := hG.1.2.getv hx
      obtain ⟨e1, he1, te1⟩ := hG.2.2.getv hy
      have gn := Go.new (o := .tup [x1, y1]) wk hT
      rw [show ds.getD i .none = d1 by rw [List.getD_eq_getElem?_getD, hd1]; rfl, show es.getD i .none = e1 by rw [List.getD_eq_getElem?_getD, he1]; rfl]
      exact ⟨gn, .tup (.inl (.inl upd_same)) (.cons (td.go wk gn) (.cons (te1.go wk gn) .nil))⟩
    · have h1 : ds[i]? = some ds[i] := List.getElem?_eq_getElem hi
      have h3 : es[i]? = some (es[i]'(by omega)) := List.getElem?_eq_getElem _
      rw [show ds.getD i .none = ds[i] by rw [List.getD_eq_getElem?_getD, h1]; rfl, show es.getD i .none = es[i]'(by omega) by rw [List.getD_eq_getElem?_getD, h3]; rfl]
      obtain ⟨ρ1, tc, ev⟩ := ht i _ _ h1 h3
      exact ⟨ρ1, tc, et_yes, fun _ => ev⟩
    · rw [filter_all fun _ => rfl] at tz
      exact q Dl zs _ H' ((g1.trans g2).trans gg) rfl (fresh_go (g1.trans g2).2 (g1.trans g2).1 hD) hz tz
/-- [f(j, x) for j, x in enumerate(a list that has a name) if p] -/
theorem el_compE0L {i0 : Nat} (p : Nat → Bool) (f : Nat → PyData) (h : LstAt ρ i0 ds) (hz : ds.length ≤ 1000)
    (ht : ∀ (i : Nat) d, ds[i]? = some d → ∃ ρ1, Tc K w g vs (.tuple [.int (i : Int), d]) (wipeR ρ vs) ρ1 ∧ EvT K w tt ρ1 (Is (p i)) ∧ (p i = true → EvD K w te ρ1 (Is (f i)))) :
    EvL K w (tLc (iEn0 K (tCons (tVar i0) tNil)) g tt te vs) ρ (Is (((List.range ds.length).filter p).map f)) := fun σ H0 H E Q q => by
  obtain ⟨a, xs, e, sq, al, na⟩ := E.lst h
  refine ⟨.ref a, e, false, a, xs, rfl, sq, fun Dl hD => ?_⟩
  have el := al.length
  refine lc_data ((walk_n (K := K) (t := false) (a := a) (k := 0) (xs := xs)).mono (G' := fun H => SqL K H a xs ∧ TpAll K H xs ds) (fun H h => h.1) fun i H x H' _ _ y => y) (fun i => .tuple [.int (i : Int), ds.getD i .none]) (fun i H x H' hi wk hG hY => ?_) (fun H H' wk hG gg => ⟨sqL_kp gg.1 na hG.1, hG.2.go wk gg⟩) p f (fun i hi => ?_) (by omega) E ⟨sq, al⟩ hD fun zs H' gg hz tz => ?_
  · obtain ⟨T, x, rfl, hT, rfl, hx⟩ := hY
    rw [Int.zero_add]
    have gn := Go.new (o := .tup [.int (i : Int), x]) wk hT
    refine ⟨gn, .tup (.inl (.inl upd_same)) (.cons (.int _) (.cons ?_ .nil))⟩
    obtain ⟨d', hd', td⟩ := hG.2.getv hx
    rw [show ds.getD i .none = d' by rw [List.getD_eq_getElem?_getD, hd']; rfl]
    exact td.go wk gn
  · have hi' : i < ds.length := by omega
    have hd : ds[i]? = some ds[i] := List.getElem?_eq_getElem hi'
    rw [show ds.getD i .none = ds[i] by rw [List.getD_eq_getElem?_getD, hd]; rfl]
    exact ht i _ hd
  · rw [el] at tz
    exact q Dl zs _ H' gg rfl hD hz tz
def pinZ (B : Bs) (a : Addr) (xs : List V) (ds : List PyData) : Bs := ⟨B.h, B.pn, B.ln, B.tn, (a, xs, ds) :: B.zn⟩
theorem Env.pinZ {a : Addr} {o : Obj} {xs : List V} (E : Env K w H0 H σ ρ) (h : H a = some (.frz o (.lst xs))) (t : TpAll K H xs ds) : Env K w (Vd.pinZ H0 a xs ds) H σ ρ :=
  ⟨E.kp, E.pin, E.lin, E.wok, E.len, E.sl, E.sep, E.tq, fun p hp => by
    rcases List.mem_cons.mp hp with rfl | hp
    · exact ⟨⟨o, h⟩, t⟩
    · exact E.zin p hp⟩
theorem Env.unpinZ {a : Addr} {xs : List V} (E : Env K w (Vd.pinZ H0 a xs ds) H σ ρ) : Env K w H0 H σ ρ := ⟨E.kp, E.pin, E.lin, E.wok, E.len, E.sl, E.sep, E.tq, fun p hp => E.zin p (List.mem_cons_of_mem _ hp)⟩
theorem Env.pinnedZ {a : Addr} {xs : List V} (E : Env K w (Vd.pinZ H0 a xs ds) H σ ρ) : (∃ o, H a = some (.frz o (.lst xs))) ∧ TpAll K H xs ds := E.zin (a, xs, ds) List.mem_cons_self
/-- for j, x in enumerate(a locked list, start=k) -/
theorem run_forZS {tk : TE} {k : Int} (h : EvD K w tl ρ (Is (lz ds))) (hk : EvD K w tk ρ (Is (.int k))) (kb : -(2 ^ 63) ≤ k ∧ k < 2 ^ 63) (I : Nat → Rho → Prop) (h0 : I 0 ρ)
    (hs : ∀ (j : Nat) d ρ', ds[j]? = some d → I j ρ' → ∃ ρ1, Tg K w g (.tuple [.int (k + (j : Int)), d]) ρ' ρ1 ∧ Run K w tu ρ1 R (fun ρ2 => I (j + 1) ρ2)) (hd : ∀ ρ', I ds.length ρ' → N ρ') :
    Run K w (tFor (iEn K (tCons tl tNil) (tCons tk tNil)) g tu) ρ R N := fun D σ H0 H E r nx =>
  h σ H0 H E _ fun v d1 H1 g1 s1 t1 => by
    cases (show d1 = _ from s1)
    obtain ⟨a, o, xs, rfl, hf, al⟩ := t1.inv_lz
    refine hk σ H0 H1 (E.go g1) _ fun z d2 H2 g2 s2 t2 => ?_
    cases (show d2 = _ from s2)
    rw [t2.inv_int]
    have hf2 := frz_go g1.2 g2 hf
    have F := ((E.go g1).go g2).pinZ hf2 (al.go g1.2 g2)
    have la := al.length
    refine ⟨false, a, xs, k, rfl, rfl, kb, .inl (.inr ⟨o, hf2⟩), for_it (walk_n (K := K) (t := false) (a := a) (k := k) (xs := xs)) (fun j σ' H' => ∃ ρ', I j ρ' ∧ Env K w (pinZ H0 a xs ds) H' σ' ρ') ⟨ρ, h0, F⟩ (fun j σ' H' _ hz => ?_) (fun j x σ' H' H'' hj hz hy => ?_) fun σ' H' hz => ?_⟩
    · obtain ⟨ρ', _, E'⟩ := hz
      exact .inl (.inr E'.pinnedZ.1)
    · obtain ⟨ρ', pI, E'⟩ := hz
      obtain ⟨T, x1, rfl, hT, rfl, hx⟩ := hy
      obtain ⟨d, hd1, td⟩ := E'.pinnedZ.2.getv hx
      obtain ⟨ρ1, tgt, ru⟩ := hs j d ρ' hd1 pI
      have gn := Go.new (o := .tup [.int (k + (j : Int)), x1]) E'.wok hT
      have tt : Tp K (upd H' T (.tup [.int (k + (j : Int)), x1])) (.ref T) (.tuple [.int (k + (j : Int)), d]) := .tup (.inl (.inl upd_same)) (.cons (.int _) (.cons (td.go E'.wok gn) .nil))
      exact tgt _ σ' _ _ _ (E'.go gn) tt fun σ2 H3 _ E2 => ru _ σ2 _ H3 E2 r fun σ3 ρ3 H3 E3 q => ⟨ρ3, q, E3⟩
    · obtain ⟨ρ', pI, E'⟩ := hz
      exact nx σ' ρ' H' E'.unpinZ (hd ρ' (by rw [← la]; exact pI))
theorem ev_comb {a b : Int} (ha : EvD K w ta ρ (Is (.int a))) (hb : EvD K w tb ρ (Is (.int b))) (h0 : 0 ≤ a ∧ a ≤ 1000) (h1 : 0 ≤ b ∧ b ≤ 1000) : EvD K w (tCB rComb (tCons ta (tCons tb tNil))) ρ (Is (.int (PySem.W.mcComb a b))) :=
  ev_cb (ea_cons ha (ea_cons hb ea_nil)) fun es e vs H k t Q q => by
    cases (show es = _ from e)
    obtain ⟨v, u, rfl, tv, tu⟩ := t.two
    rw [tv.inv_int, tu.inv_int]
    exact ⟨a, b, rfl, h0.1, h0.2, h1.1, h1.2, q _ _ H (Go.refl k) rfl (.int _)⟩
/-- a new list and one of one's own, one behind the other -/
theorem el_catNV {i : Nat} (ha : EvL K w ta ρ (Is ds)) (h : ρ[i]? = some (some (.own es))) (hz : ds.length + es.length ≤ 100000) : EvL K w (tOp rCat ta (tVar i)) ρ (Is (ds ++ es)) := fun σ H0 H E Q q =>
  ha σ H0 H E _ fun p xs ds' H1 g1 s1 n1 h1 t1 => by
    cases (show ds' = ds from s1)
    have E1 := E.go g1
    obtain ⟨r, ys, e2, h02, hp2, t2, nw2⟩ := E1.gown h
    refine ⟨.ref r, e2, p, r, xs, ys, rfl, rfl, h1, hp2, Evl.sz_of (by rw [t1.length, t2.length]; exact hz), fun c hc => ?_⟩
    have gc := Go.new (o := .lst (xs ++ ys)) g1.2 hc
    exact q c _ _ _ (g1.trans gc) rfl (fresh_go g1.2 g1.1 hc) upd_same ((t1.go g1.2 gc).append (t2.go g1.2 gc))
end
/-- a def that is never called -/
def spNo : Sp := fun _ _ _ _ => False
theorem FnOk.no {P : Program} {w : World} {K : PySem.W.Frag} {mg : Str → Option Value} {base : Heap} {CX : CXT} {k : Nat} {f : Addr} {fd : FuncData} {ps : List Str} : FnOk P w K mg base CX k f fd ps spNo := ⟨fun _ _ _ _ h => h.elim, fun _ _ _ _ _ _ _ _ _ _ _ _ _ h => h.elim⟩
end Vd
set_option Elab.async false
set_option linter.all false
set_option maxRecDepth 100000
set_option maxHeartbeats 4000000
namespace My
open PySem PySem.Spec PyProof.Rows L2 Vd Mt
theorem gp_mir (L : List Pr) (j : Nat) : gp (mir L) j = cc (gp L j) := by
  unfold gp mir
  rw [List.getD_eq_getElem?_getD, List.getD_eq_getElem?_getD, List.getElem?_map]
  cases L[j]? with
  | none => exact cc_zero.symm
  | some q => rfl
theorem mir_wv {L : List Pr} (h : Wv L) : Wv (mir L) := ⟨by unfold mir; rw [List.length_map]; exact h.1, mir_ends h.2⟩
theorem mir_sz {n : Nat} {L : List Pr} (h : Sz n L) : Sz n (mir L) := fun j => by
  have e := gp_mir L j
  unfold gp at e
  rw [e]
  exact ⟨(h j).1, neg_rb (h j).2⟩
theorem stp_mir {z v : Pr} (h : z ≠ (0, 0)) : stp (cc z) (cc v) = cc (stp z v) := by
  have h' : cc z ≠ (0, 0) := fun e => h (by rw [← cc_cc z, e]; exact cc_zero)
  refine (stp_is h' ?_).symm
  have a := congrArg cc (stp_cmu (v := v) h)
  rw [cc_cmu] at a
  exact a
theorem al_mir {L M : List Pr} : AL (mir L) (mir M) ↔ AL L M := by
  have z0 : ∀ {z : Pr}, cc z = (0, 0) ↔ z = (0, 0) := fun {z} => ⟨fun e => by rw [← cc_cc z, e]; exact cc_zero, fun e => by rw [e]; exact cc_zero⟩
  have e : zsL (mir L) (mir M) = (zsL L M).map fun a => (a.1, cc a.2) := by
    unfold zsL
    rw [harm_congr (M := L) fun j => (show gp (mir L) j = (0, 0) ↔ gp L j = (0, 0) by rw [gp_mir]; exact z0), List.map_map]
    apply List.map_congr_left
    intro i hi
    show (1 + i, stp (gp (mir L) i) (gp (mir M) i)) = (1 + i, cc (stp (gp L i) (gp M i)))
    rw [gp_mir, gp_mir, stp_mir (mem_harm.mp hi)]
  unfold AL
  rw [e, List.pairwise_map]
  have e2 : (zsL L M).Pairwise (fun a b => Sm (a.1, cc a.2) (b.1, cc b.2)) ↔ (zsL L M).Pairwise Sm := ⟨fun h => h.imp fun h => sm_cc.mp h, fun h => h.imp fun h => sm_cc.mpr h⟩
  rw [e2]
  simp only [gp_mir, nr_cc]
theorem al_mirror {L M : List Pr} : AL (mir M) L ↔ AL (mir L) M := by
  rw [al_comm (L := mir L), ← al_mir (L := M) (M := mir L), mir_mir]
end My
set_option Elab.async false
set_option linter.all false
set_option maxRecDepth 100000
set_option maxHeartbeats 4000000
/-! turns in order: half angles, the law's own order, the keys -/
namespace My
open PySem PySem.Spec PyProof.Rows L2 Vd Mt
/-- a half angle as the law draws it -/
structure Hv (h : Int × Int) : Prop where
  ok : (h.1 = 1 ∧ h.2 = 0) ∨ 1 ≤ h.2
  b1 : h.1.natAbs ≤ 1000000
  b2 : h.2.natAbs ≤ 1000000
theorem Hv.q0 {h : Int × Int} (v : Hv h) : 0 ≤ h.2 := by rcases v.ok with ⟨_, e⟩ | e <;> omega
theorem Hv.ne {h : Int × Int} (v : Hv h) : h.1 ≠ 0 ∨ h.2 ≠ 0 := by rcases v.ok with ⟨e, _⟩ | e <;> omega
theorem Hv.neg {h : Int × Int} (v : Hv h) (n : h.1 < 0) : 1 ≤ h.2 := by rcases v.ok with ⟨e, _⟩ | e <;> omega
/-- the point and the turn of a half angle -/
abbrev hpt (h : Int × Int) : Pt := mkPt h.1 h.2
/-- g does not come behind h -/
def hle (g h : Int × Int) : Bool := if 0 ≤ g.1 then (if 0 ≤ h.1 then decide (g.1 * h.2 ≤ h.1 * g.2) else true) else (if 0 ≤ h.1 then false else decide (g.1 * h.2 ≤ h.1 * g.2))
/-- a turn's key over a common denominator -/
def keyD (S : Int) : PyData → Int × Int
  | .tuple [.tuple [.int a, .int m], .tuple [.int b, .int _]] => if b ≥ 0 then (0, -(a * (S / m))) else (1, a * (S / m))
  | _ => (0, 0)
theorem key_tn (S : Int) (P : Pt) : keyD S (tnD P) = if (tn P).b ≥ 0 then (0, -((tn P).a * (S / (tn P).m))) else (1, (tn P).a * (S / (tn P).m)) := rfl
theorem cos_eq {S : Int} {P : Pt} (h : P.Ok) (d : (tn P).m ∣ S) : (tn P).a * (S / (tn P).m) * P.r = P.x * S := by
  obtain ⟨k, k0, e1, e2, e3⟩ := tn_eqs h
  have e4 : (tn P).m * (S / (tn P).m) = S := Int.mul_ediv_cancel' d
  rw [← e1, ← e3]
  generalize S / (tn P).m = q at *
  rw [← e4]
  grind
theorem sgn_eq {h : Int × Int} (v : Hv h) : (tn (hpt h)).b ≥ 0 ↔ 0 ≤ h.1 := by
  obtain ⟨k, k0, e1, e2, e3⟩ := tn_eqs (mkPt_ok v.ne)
  have e : k * (tn (hpt h)).b = 2 * h.1 * h.2 := e2
  have q0 := v.q0
  constructor
  · intro z
    rcases Int.lt_or_le h.1 0 with n | n
    · have := Int.mul_neg_of_neg_of_pos (show 2 * h.1 < 0 by omega) (show 0 < h.2 by have := v.neg n; omega)
      have := Int.mul_nonneg (Int.le_of_lt k0) z
      omega
    · exact n
  · intro z
    rcases Int.lt_or_le (tn (hpt h)).b 0 with n | n
    · have := Int.mul_nonneg (show 0 ≤ 2 * h.1 by omega) q0
      have := Int.mul_neg_of_pos_of_neg k0 n
      omega
    · exact n
theorem sq_le {a b : Int} (ha : 0 ≤ a) (hb : 0 ≤ b) : a * a ≤ b * b ↔ a ≤ b := by
  constructor
  · intro z
    rcases Int.lt_or_le b a with y | y
    · have h1 : b * b ≤ b * a := Int.mul_le_mul_of_nonneg_left (Int.le_of_lt y) hb
      have h2 : b * a < a * a := Int.mul_lt_mul_of_pos_right y (by omega)
      omega
    · exact y
  · exact fun z => Int.mul_le_mul z z ha hb
theorem cmp_iff {S c d r s x y : Int} (S0 : 0 < S) (r0 : 0 < r) (s0 : 0 < s) (e1 : c * r = x * S) (e2 : d * s = y * S) : c ≤ d ↔ x * s ≤ y * r := by
  have h1 : c * (r * s) = x * s * S := by grind
  have h2 : d * (r * s) = y * r * S := by grind
  have rs : 0 < r * s := Int.mul_pos r0 s0
  constructor
  · intro z
    have := Int.mul_le_mul_of_nonneg_right z (Int.le_of_lt rs)
    exact Int.le_of_mul_le_mul_right (by omega) S0
  · intro z
    have := Int.mul_le_mul_of_nonneg_right z (Int.le_of_lt S0)
    exact Int.le_of_mul_le_mul_right (by omega) rs
theorem xr_iff (g h : Int × Int) : (hpt g).x * (hpt h).r ≤ (hpt h).x * (hpt g).r ↔ h.1 * g.2 * (h.1 * g.2) ≤ g.1 * h.2 * (g.1 * h.2) := by
  show (g.2 * g.2 - g.1 * g.1) * (h.2 * h.2 + h.1 * h.1) ≤ (h.2 * h.2 - h.1 * h.1) * (g.2 * g.2 + g.1 * g.1) ↔ _
  have e : (g.2 * g.2 - g.1 * g.1) * (h.2 * h.2 + h.1 * h.1) - (h.2 * h.2 - h.1 * h.1) * (g.2 * g.2 + g.1 * g.1) = 2 * (h.1 * g.2 * (h.1 * g.2) - g.1 * h.2 * (g.1 * h.2)) := by grind
  omega
theorem key_le {S : Int} (S0 : 0 < S) {g h : Int × Int} (vg : Hv g) (vh : Hv h) (dg : (tn (hpt g)).m ∣ S) (dh : (tn (hpt h)).m ∣ S) : kLe (keyD S) (tnD (hpt g)) (tnD (hpt h)) = hle g h := by
  have og := mkPt_ok vg.ne
  have oh := mkPt_ok vh.ne
  have cg := cos_eq (S := S) og dg
  have ch := cos_eq (S := S) oh dh
  have sg := sgn_eq vg
  have sh := sgn_eq vh
  have gh := (cmp_iff S0 og.pos oh.pos cg ch).trans (xr_iff g h)
  have hg := (cmp_iff S0 oh.pos og.pos ch cg).trans (xr_iff h g)
  unfold kLe hle
  rw [key_tn, key_tn]
  have q1 := vg.q0
  have q2 := vh.q0
  by_cases h1 : 0 ≤ g.1 <;> by_cases h2 : 0 ≤ h.1
  · rw [if_pos (sg.mpr h1), if_pos (sh.mpr h2), if_pos h1, if_pos h2]
    have k := sq_le (Int.mul_nonneg h1 q2) (Int.mul_nonneg h2 q1)
    refine decide_eq_decide.mpr ?_
    dsimp only
    constructor
    · rintro (z | ⟨_, z⟩)
      · omega
      · exact k.mp (hg.mp (Int.neg_le_neg_iff.mp z))
    · intro z
      exact .inr ⟨rfl, Int.neg_le_neg_iff.mpr (hg.mpr (k.mpr z))⟩
  · rw [if_pos (sg.mpr h1), if_neg (fun z => h2 (sh.mp z)), if_pos h1, if_neg h2]
    rfl
  · rw [if_neg (fun z => h1 (sg.mp z)), if_pos (sh.mpr h2), if_neg h1, if_pos h2]
    rfl
  · rw [if_neg (fun z => h1 (sg.mp z)), if_neg (fun z => h2 (sh.mp z)), if_neg h1, if_neg h2]
    have a1 : 0 ≤ -g.1 * h.2 := Int.mul_nonneg (by omega) q2
    have a2 : 0 ≤ -h.1 * g.2 := Int.mul_nonneg (by omega) q1
    have k := sq_le a2 a1
    have e1 : -g.1 * h.2 = -(g.1 * h.2) := Int.neg_mul ..
    have e2 : -h.1 * g.2 = -(h.1 * g.2) := Int.neg_mul ..
    rw [e1, e2, Int.neg_mul_neg, Int.neg_mul_neg] at k
    refine decide_eq_decide.mpr ?_
    dsimp only
    constructor
    · rintro (z | ⟨_, z⟩)
      · omega
      · have := k.mp (gh.mp z)
        omega
    · intro z
      exact .inr ⟨rfl, gh.mpr (k.mpr (by omega))⟩
/-- half angles neither of which comes behind the other tell one turn -/
theorem same_turn {g h : Int × Int} (vg : Hv g) (vh : Hv h) (a : hle g h = true) (b : hle h g = true) : tnD (hpt g) = tnD (hpt h) := by
  have e : g.1 * h.2 = h.1 * g.2 := by
    unfold hle at a b
    by_cases h1 : 0 ≤ g.1 <;> by_cases h2 : 0 ≤ h.1 <;> simp [h1, h2] at a b <;> omega
  have s : Sim (hpt g) (hpt h) := by
    refine ⟨?_, ?_⟩
    · have z1 := (xr_iff g h).mpr (by rw [e]; exact Int.le_refl _)
      have z2 := (xr_iff h g).mpr (by rw [e]; exact Int.le_refl _)
      exact Int.le_antisymm z1 z2
    · show 2 * g.1 * g.2 * (h.2 * h.2 + h.1 * h.1) = 2 * h.1 * h.2 * (g.2 * g.2 + g.1 * g.1)
      have e1 : g.1 * g.2 * (h.2 * h.2) = h.1 * h.2 * (g.2 * g.2) := by grind
      have e2 : g.1 * g.2 * (h.1 * h.1) = h.1 * h.2 * (g.1 * g.1) := by grind
      grind
  have z := tn_sim (mkPt_ok vg.ne) (mkPt_ok vh.ne) s
  unfold tnD
  rw [z]
theorem perm_sorted_eq {α : Type} {le : α → α → Bool} : ∀ {l m : List α}, l.Perm m → l.Pairwise (fun a b => le a b = true) → m.Pairwise (fun a b => le a b = true) → (∀ a ∈ l, ∀ b ∈ l, le a b = true → le b a = true → a = b) → l = m
  | [], m, p, _, _, _ => p.nil_eq
  | a :: l, [], p, _, _, _ => absurd p.length_eq (by simp)
  | a :: l, b :: m, p, pl, pm, anti => by
    have e : a = b := by
      have ha : a ∈ b :: m := p.mem_iff.mp (List.mem_cons_self ..)
      have hb : b ∈ a :: l := p.mem_iff.mpr (List.mem_cons_self ..)
      rcases List.mem_cons.mp ha with z | ha'
      · exact z
      · rcases List.mem_cons.mp hb with z | hb'
        · exact z.symm
        · exact anti a (List.mem_cons_self ..) b hb ((List.pairwise_cons.mp pl).1 b hb') ((List.pairwise_cons.mp pm).1 a ha')
    subst e
    rw [perm_sorted_eq (p.cons_inv) (List.pairwise_cons.mp pl).2 (List.pairwise_cons.mp pm).2 fun x hx y hy => anti x (List.mem_cons_of_mem _ hx) y (List.mem_cons_of_mem _ hy)]
theorem kLe_trans (key : PyData → Int × Int) (a b c : PyData) (h : kLe key a b = true) (k : kLe key b c = true) : kLe key a c = true := by
  unfold kLe at *
  have h := of_decide_eq_true h
  have k := of_decide_eq_true k
  exact decide_eq_true (by omega)
theorem kLe_total (key : PyData → Int × Int) (a b : PyData) : (kLe key a b || kLe key b a) = true := by
  unfold kLe
  by_cases h : (key a).1 < (key b).1 ∨ ((key a).1 = (key b).1 ∧ (key a).2 ≤ (key b).2)
  · rw [decide_eq_true h]; rfl
  · rw [decide_eq_true (show (key b).1 < (key a).1 ∨ ((key b).1 = (key a).1 ∧ (key b).2 ≤ (key a).2) by omega), Bool.or_true]
/-- the turns of some half angles, in order: there is but one order -/
theorem in_order_eq {S : Int} (S0 : 0 < S) {hs gs : List (Int × Int)} (v : ∀ h ∈ hs, Hv h) (dv : ∀ h ∈ hs, (tn (hpt h)).m ∣ S) (p : gs.Perm hs) (srt : gs.Pairwise fun a b => hle a b = true) :
    (hs.map fun h => tnD (hpt h)).mergeSort (kLe (keyD S)) = gs.map fun h => tnD (hpt h) := by
  have pm := List.mergeSort_perm (hs.map fun h => tnD (hpt h)) (kLe (keyD S))
  refine perm_sorted_eq (pm.trans (p.map _).symm) (List.pairwise_mergeSort (fun a b c h k => kLe_trans (keyD S) a b c h k) (fun a b => kLe_total (keyD S) a b) _) ?_ fun x hx y hy a b => ?_
  · rw [List.pairwise_map]
    refine srt.imp_of_mem fun {x y} hx hy z => ?_
    have mx := p.mem_iff.mp hx
    have my := p.mem_iff.mp hy
    rw [key_le S0 (v x mx) (v y my) (dv x mx) (dv y my)]
    exact z
  · obtain ⟨g, hg, rfl⟩ := List.mem_map.mp (pm.mem_iff.mp hx)
    obtain ⟨h, hh, rfl⟩ := List.mem_map.mp (pm.mem_iff.mp hy)
    rw [key_le S0 (v g hg) (v h hh) (dv g hg) (dv h hh)] at a
    rw [key_le S0 (v h hh) (v g hg) (dv h hh) (dv g hg)] at b
    exact same_turn (v g hg) (v h hh) a b
end My
set_option Elab.async false
set_option linter.all false
set_option maxRecDepth 100000
set_option maxHeartbeats 4000000
/-! own lists: insert -/
namespace Vd
open PySem PySem.Spec PyProof.Rows L2
end Vd
namespace My
open PySem PySem.Spec PyProof.Rows L2 Vd Mt
abbrev tH (h : Int × Int) : PyData := tnD (hpt h)
structure Hvs (hs : List (Int × Int)) : Prop where
  all : ∀ h ∈ hs, Hv h
  len : hs.length ≤ 40
theorem Hv.ptb {h : Int × Int} (v : Hv h) : PtB 42 (hpt h) := by
  refine ⟨mkPt_ok v.ne, ?_⟩
  show (h.2 * h.2 + h.1 * h.1).natAbs < 2 ^ 42
  have a : h.2.natAbs * h.2.natAbs ≤ 1000000 * 1000000 := Nat.mul_le_mul v.b2 v.b2
  have b : h.1.natAbs * h.1.natAbs ≤ 1000000 * 1000000 := Nat.mul_le_mul v.b1 v.b1
  have c : (h.2 * h.2 + h.1 * h.1).natAbs ≤ (h.2 * h.2).natAbs + (h.1 * h.1).natAbs := Int.natAbs_add_le _ _
  rw [Int.natAbs_mul, Int.natAbs_mul] at c
  omega
theorem PtB.up {n m : Nat} {P : Pt} (h : PtB n P) (k : n ≤ m) : PtB m P := ⟨h.1, Nat.lt_of_lt_of_le h.2 (Nat.pow_le_pow_right (by decide) k)⟩
theorem Hv.tnb {h : Int × Int} (v : Hv h) : bd 42 (tn (hpt h)).a ∧ bd 42 (tn (hpt h)).b ∧ bd 42 (tn (hpt h)).m := by
  have ok := mkPt_ok v.ne
  have m0 := tn_pos ok
  have ml := tn_le ok
  have hm : bd 42 (tn (hpt h)).m := bd_le (by have := ok.pos; show (tn (mkPt h.1 h.2)).m.natAbs ≤ (mkPt h.1 h.2).r.natAbs; omega) v.ptb.2
  have q := tn_abs ok
  exact ⟨bd_le q.1 hm, bd_le q.2 hm, hm⟩
end My
set_option Elab.async false
set_option linter.all false
set_option maxRecDepth 100000
set_option maxHeartbeats 4000000
/-! a comprehension over a new list; a call with the well that gives a list -/
namespace Vd
open PySem PySem.Spec PyProof.Rows L2
end Vd
set_option Elab.async false
set_option linter.all false
set_option maxRecDepth 100000
set_option maxHeartbeats 4000000
/-! the law's own sort -/
namespace My
open PySem PySem.Spec PyProof.Rows L2 Vd Mt
end My
set_option Elab.async false
set_option linter.all false
set_option maxRecDepth 100000
set_option maxHeartbeats 4000000
/-! runs with a table known; the law's last bits -/
namespace Vd
open PySem PySem.Spec PyProof.Rows L2
section
variable {K : Fr} {w : WA} {Pt : Addr} {ρ : Rho} {te ta : TE} {R : Rt} {N : Rho → Prop} {ts tu : TS} {Ss : List PyData → Prop}
theorem code_at {K : Fr} {cd : Value} {q : Str} (h : PySem.W.codeIn K cd q = true) : ∀ c, cd = .ref c → ∃ oc, K.lookup c = some oc := fun c e => by
  subst e
  unfold PySem.W.codeIn at h
  dsimp only at h
  cases z : K.lookup c with
  | some oc => exact ⟨oc, rfl⟩
  | none => rw [z] at h; cases h
end
end Vd
namespace My
open PySem PySem.Spec PyProof.Rows L2 Vd Mt
end My
namespace My
open PySem PySem.Spec PyProof.Rows L2 Vd Mt
end My
set_option Elab.async false
set_option linter.all false
set_option maxRecDepth 100000
set_option maxHeartbeats 4000000
/-! rows of waves -/
namespace My
open PySem PySem.Spec PyProof.Rows L2 Vd Mt
def sgC (p q : Int) (i : Nat) : Int := match i % 4 with
  | 0 => p
  | 1 => q
  | 2 => -p
  | _ => -q
def hnum (row : List Int) (j : Nat) (p q : Int) (c k : Nat) : Int := (row ++ [0, 0]).getD k 0 + ([0, 0] ++ row).getD k 0 + PySem.W.mcComb (2 * (j : Int)) (k : Int) * sgC p q (k + j * c)
def hstep (row : List Int) (j : Nat) (p q : Int) (c : Nat) : List Int := (List.range (row.length + 2)).map (hnum row j p q c)
def hrowTo (k0 : Int) (ps : List (Int × Int)) (c : Nat) : Nat → List Int
  | 0 => [k0]
  | i + 1 => hstep (hrowTo k0 ps c i) (i + 1) (ps.getD i (0, 0)).1 (ps.getD i (0, 0)).2 c
theorem hrow_len (k0 : Int) (ps : List (Int × Int)) (c i : Nat) : (hrowTo k0 ps c i).length = 2 * i + 1 := by
  induction i with
  | zero => rfl
  | succ i ih => rw [hrowTo, hstep, List.length_map, List.length_range, ih]; omega
theorem comb_ok : ∀ j : Nat, j ≤ 16 → ∀ k : Nat, k ≤ 34 → 0 ≤ PySem.W.mcComb (2 * (j : Int)) (k : Int) ∧ PySem.W.mcComb (2 * (j : Int)) (k : Int) < 2 ^ 64 := by
  have h : ((List.range 17).all fun j => (List.range 35).all fun k => decide (0 ≤ PySem.W.mcComb (2 * (j : Int)) (k : Int)) && decide (PySem.W.mcComb (2 * (j : Int)) (k : Int) < 2 ^ 64)) = true := by decide +kernel
  intro j hj k hk
  have a := List.all_eq_true.mp (List.all_eq_true.mp h j (List.mem_range.mpr (by omega))) k (List.mem_range.mpr (by omega))
  rw [Bool.and_eq_true] at a
  exact ⟨of_decide_eq_true a.1, of_decide_eq_true a.2⟩
/-- the last number, of the first quarter, where there are sines alone -/
theorem hrow_last {ps : List (Int × Int)} (h : ∀ j, (ps.getD j (0, 0)).1 = 0) (i : Nat) : (hrowTo 0 ps 0 i).getD (2 * i) 0 = 0 := by
  induction i with
  | zero => rfl
  | succ i ih =>
    have l := hrow_len 0 ps 0 i
    rw [hrowTo, hstep, l]
    rw [List.getD_eq_getElem?_getD, List.getElem?_map, List.getElem?_range (by omega)]
    show hnum _ _ _ _ _ _ = 0
    unfold hnum
    rw [h i, List.getD_eq_getElem?_getD, List.getElem?_append_right (by omega), l, show 2 * (i + 1) - (2 * i + 1) = 1 by omega, List.getD_eq_getElem?_getD, List.getElem?_append_right (by simp only [List.length_cons, List.length_nil]; omega), show 2 * (i + 1) - [(0 : Int), 0].length = 2 * i by simp only [List.length_cons, List.length_nil]; omega]
    rw [List.getD_eq_getElem?_getD] at ih
    rw [ih]
    have : sgC 0 (ps.getD i (0, 0)).2 (2 * (i + 1) + (i + 1) * 0) = 0 := by
      unfold sgC
      have : (2 * (i + 1) + (i + 1) * 0) % 4 = 0 ∨ (2 * (i + 1) + (i + 1) * 0) % 4 = 2 := by omega
      rcases this with e | e <;> rw [e] <;> rfl
    rw [this]
    simp
/-- a fraction over c -/
def wh (c : Int) (x : Rat) : Int := x.num * (c / (x.den : Int))
def whP (c : Int) (z : Pr) : Int × Int := (wh c z.1, wh c z.2)
def iiD (p : Int × Int) : PyData := .tuple [.int p.1, .int p.2]
def wholeD (c : Int) (k : Rat) (L : List Pr) : PyData := .tuple [.int (wh c k), lz ((L.map (whP c)).map iiD)]
/-- all denominators divide M -/
structure DvM (M : Nat) (k : Rat) (L : List Pr) : Prop where
  pos : 0 < M
  lt : M < 2 ^ 6000
  k : k.den ∣ M
  l : ∀ z ∈ L, z.1.den ∣ M ∧ z.2.den ∣ M
structure CsOk (M : Nat) (k : Rat) (L : List Pr) (c : Int) : Prop where
  pos : 0 < c
  dvd : c.natAbs ∣ M
  k : (k.den : Int) ∣ c
  l : ∀ z ∈ L, (z.1.den : Int) ∣ c ∧ (z.2.den : Int) ∣ c
theorem lcmS {M : Nat} {c : Int} {d : Nat} (h0 : 0 < c) (hc : c.natAbs ∣ M) (hd : d ∣ M) (M0 : 0 < M) : 0 < ((Nat.lcm c.natAbs d : Nat) : Int) ∧ (((Nat.lcm c.natAbs d : Nat) : Int)).natAbs ∣ M ∧ c ∣ ((Nat.lcm c.natAbs d : Nat) : Int) ∧ (d : Int) ∣ ((Nat.lcm c.natAbs d : Nat) : Int) := by
  have d0 : 0 < d := Nat.pos_of_dvd_of_pos hd M0
  refine ⟨?_, ?_, ?_, ?_⟩
  · have := Nat.lcm_pos (m := c.natAbs) (n := d) (by omega) d0; omega
  · rw [Int.natAbs_natCast]; exact Nat.lcm_dvd hc hd
  · exact Int.natAbs_dvd_natAbs.mp (by rw [Int.natAbs_natCast]; exact Nat.dvd_lcm_left _ _)
  · exact Int.natAbs_dvd_natAbs.mp (by rw [Int.natAbs_natCast, Int.natAbs_natCast]; exact Nat.dvd_lcm_right _ _)
theorem le_dv {M : Nat} {c : Int} (M0 : 0 < M) (hM : M < 2 ^ 6000) (hc : c.natAbs ∣ M) : c.natAbs < 2 ^ 6000 := Nat.lt_of_le_of_lt (Nat.le_of_dvd M0 hc) hM
/-! ### greatest common divisors of the harmonics -/
def gH (L : List Pr) : Nat := ((harm L).map fun i => 1 + i).foldl Nat.gcd 0
theorem stp_self {z : Pr} (h : z ≠ (0, 0)) : stp z z = c1 := (stp_is h (by rw [cmu_c1])).symm
theorem zs_self (L : List Pr) : zsL L L = (harm L).map fun i => (1 + i, c1) := by
  unfold zsL
  apply List.map_congr_left
  intro i hi
  rw [stp_self (mem_harm.mp hi)]
theorem ptg_self (k : Rat) (L : List Pr) : ptg k k L L = .none := by
  have h := ptg_none k k L L
  rw [alB_iff.mpr ⟨rfl, al_self L⟩] at h
  rcases ptg_or k k L L with e | ⟨l, e⟩
  · exact e
  · rw [e] at h; exact nomatch h
theorem sg_at (p q : Int) (i : Nat) : atI [PyData.int p, .int q, .int (-p), .int (-q)] ((i : Int) % 4) = some (.int (sgC p q i)) := by
  have h : i % 4 = 0 ∨ i % 4 = 1 ∨ i % 4 = 2 ∨ i % 4 = 3 := by omega
  unfold sgC
  rcases h with e | e | e | e
  · rw [show (i : Int) % 4 = 0 by omega, e]; rfl
  · rw [show (i : Int) % 4 = 1 by omega, e]; rfl
  · rw [show (i : Int) % 4 = 2 by omega, e]; rfl
  · rw [show (i : Int) % 4 = 3 by omega, e]; rfl
end My
set_option Elab.async false
set_option linter.all false
set_option maxRecDepth 100000
set_option maxHeartbeats 4000000
/-! the law's own call, where one def makes a lambda and numbers of any size are divided -/
namespace Vd
open PySem PySem.Spec PyProof.Rows L2
theorem lawGTS {l : PySem.W.OpenLaw} {n k : Nat} {q : Program} {loose : List Str} {XP : (Str → Option Value) → Heap → Prop} {YP : World → Heap → Prop} {d : DefRec} {K : PySem.Params → Fr} {x : Str} (fn : Str)
    (hi : importsNone q = true) (ht : l.prog.given.tree = none) (hrec : ((recsOf q).any fun e => e.name == fn) = true) (hn : l.most = some n) (hn2 : n ≤ sizeLine) (hdf : d.params.defaults = []) (hr : Room k callerA) (hY : ∀ (w : World) (h : Heap), YP w h → (K w.params).In h) (hT : ∀ w : World, noTab (K w.params) = true)
    (F : ∀ (w : World) (mg : Str → Option Value) (fa : Addr) (h : Heap), (K w.params).In h → h.Ns mainGlobals mg → mg d.name = some (.ref fa) →
      ∃ (fd : FuncData) (fg : Addr) (og : Obj) (fdg : FuncData), (∀ (s : Shared) (u : Value), BindsTo s fd ⟨[u], []⟩ [(x, u)]) ∧ mg fn = some (.ref fg) ∧ (K w.params).lookup fg = some og ∧ og.data = .func fdg ∧ tabOf (K w.params) = tabAt (K w.params) fg ∧ (∀ c, fdg.code = .ref c → ∃ oc, (K w.params).lookup c = some oc) ∧
        ∀ (c Pt : Addr) (base : Heap), fdg.code = .ref c → tabOf (K w.params) = some Pt → (K w.params).In base → base.Ns mainGlobals mg → LamX.TabB base mg c Pt → Sees l.prog base → FnG l.prog w (K w.params) mg base k fa fd [x] (fun vs H Q _ => ∃ (a : Addr) (ns : List Int), vs = [.ref a] ∧ ns.length ≤ n ∧ SqL (K w.params) H a (ns.map V.int) ∧ Tq (K w.params) H ∧ ∀ H', Q (.bl true) H')) :
    PySem.W.WalkO q loose XP YP l.row.toRowW d [] (fun f vs => PySem.call f vs) := by
  refine Att.attach_call hn hdf fun w s0 s1 mg mb fa o pm cd doc a vs ns G Y ho hd hcd hmg hobj hints hlen hgens => ?_
  have inK := hY w _ Y
  obtain ⟨fd, fg, og, fdg, bnd, hfn, lkg, dg, hto, hcl, hF⟩ := F w mg fa _ inK G.T.g hmg
  obtain ⟨dL, hm, hnm⟩ := List.any_eq_true.mp hrec
  obtain ⟨a', o', fd', c, Pt, h1, h2, h3, h4, h5, h6⟩ := G.T.tab dL hm
  rw [show dL.name = fn from beq_iff_eq.mp hnm, hfn] at h1
  cases h1
  rw [inK _ _ lkg] at h2
  cases h2
  rw [dg] at h3
  cases h3
  have hPt : s1.heap.get? Pt = some { cls := .none, data := .fields #[] } := h6.2
  have hd0 : PySem.W.CodeHd s1.heap c Pt := PySem.W.CodeHd.of h5 h6
  have hTo : tabOf (K w.params) = some Pt := by
    obtain ⟨oc, lc⟩ := hcl c h4
    obtain ⟨⟨o2, vs2, e1, _, e3, e4⟩, _⟩ := h6
    rw [inK _ _ lc] at e1
    cases e1
    obtain ⟨gc, gd, gdt, gsl⟩ := og
    cases (show gdt = _ from dg)
    obtain ⟨oc1, oc2, oc3, oc4⟩ := oc
    cases (show oc3 = _ from e3)
    rw [hto]
    unfold tabAt
    rw [lkg]
    dsimp only
    rw [h4]
    dsimp only
    rw [lc]
    dsimp only
    rw [e4]
  have nPt : (K w.params).lookup Pt = none := by
    cases z : (K w.params).lookup Pt with
    | none => rfl
    | some ob =>
      have e := inK _ _ z
      rw [hPt] at e
      cases e
      exact absurd rfl (noTab_at (hT w) z)
  have aPt : a ≠ Pt := fun z => by
    rw [z, hPt] at hobj
    cases hobj
  have hvs := vals_ints hints
  have lns : ns.length ≤ sizeLine := Nat.le_trans hlen hn2
  suffices main : ∀ T : Hp, (T = upd (fun _ => none) Pt (.tbl #[]) ∨ (T = upd (upd (fun _ => none) a (.frz { cls := .type "list", data := .seq vs.toArray } (.lst (ns.map V.int)))) Pt (.tbl #[]) ∧ (K w.params).lookup a = none)) → SqL (K w.params) T a (ns.map V.int) →
      codeAny (model l.prog w) callerA (.call (.ref fa) ⟨[.ref a], []⟩) (fun r s' => r = .ok (.ret (.bool true)) ∧ PySem.OldK s1.heap s'.heap ∧ s'.os = s1.os ∧ AllBare s'.gens) s1 by
    cases lk : (K w.params).lookup a with
    | some ob =>
      have z := inK a ob lk
      rw [hobj] at z
      cases z
      exact main _ (.inl rfl) (.inr ⟨_, vs.toArray, _, lk, rfl, rfl, rfl, by rw [List.size_toArray, hints.length]; exact lns, by simpa using hvs⟩)
    | none => exact main _ (.inr ⟨rfl, lk⟩) (.inl (.inr ⟨_, by rw [upd_ne aPt, upd_same]⟩))
  intro T hTT sq
  have only : ∀ b u, T b = some u → (b = Pt ∧ u = .tbl #[]) ∨ (b = a ∧ u = .frz { cls := .type "list", data := .seq vs.toArray } (.lst (ns.map V.int)) ∧ (K w.params).lookup a = none) := fun b u z => by
    by_cases e1 : b = Pt
    · subst e1
      rcases hTT with rfl | ⟨rfl, _⟩ <;> · rw [upd_same] at z; cases z; exact .inl ⟨rfl, rfl⟩
    · rcases hTT with rfl | ⟨rfl, lk⟩
      · rw [upd_ne e1] at z
        cases z
      · rw [upd_ne e1] at z
        by_cases e : b = a
        · subst e
          rw [upd_same] at z
          cases z
          exact .inr ⟨rfl, rfl, lk⟩
        · rw [upd_ne e] at z
          cases z
  have hTP : T Pt = some (.tbl #[]) := by
    rcases hTT with rfl | ⟨rfl, _⟩ <;> exact upd_same
  have hok : HOk l.prog w T s1.heap := fun b u z => by
    rcases only b u z with ⟨rfl, rfl⟩ | ⟨rfl, rfl, _⟩
    · exact hPt
    · exact ⟨hobj, by rw [List.length_map]; exact lns, vs, _, hvs, hobj⟩
  have free : ∀ {b : Addr} {ob : Obj}, s1.heap.get? b = some ob → (∀ i m, ob.data ≠ .seq i m) → ob.data ≠ .fields #[] → T b = none := fun {b ob} z nd nf => by
    cases tz : T b with
    | none => rfl
    | some u =>
      rcases only b u tz with ⟨rfl, _⟩ | ⟨rfl, _, _⟩
      · rw [hPt] at z
        cases z
        exact absurd rfl nf
      · rw [hobj] at z
        cases z
        exact absurd rfl (nd _ _)
  have ns2 : ∀ {b : Addr} {m : Str → Option Value}, s1.heap.Ns b m → (hidT s1.heap T).Ns b m := fun {b m} ⟨ob, es, ep, z, dz, r⟩ => ⟨ob, es, ep, hidT_get z (free z (fun i m y => by rw [dz] at y; cases y) fun y => by rw [dz] at y; cases y), dz, r⟩
  have inB : (K w.params).In (hidT s1.heap T) := fun b ob z => hidT_get (inK b ob z) (by
    cases tz : T b with
    | none => rfl
    | some u =>
      rcases only b u tz with ⟨rfl, _⟩ | ⟨rfl, _, lk⟩
      · rw [nPt] at z
        cases z
      · rw [lk] at z
        cases z)
  have md : Mod (K w.params) mg (hidT s1.heap T) := ⟨inB, ns2 G.T.g, ⟨mb, ns2 G.T.b, G.T.builtins⟩, let ⟨mc, h1, h2⟩ := G.T.nolimit; ⟨mc, ns2 h1, h2⟩⟩
  have tB : LamX.TabB (hidT s1.heap T) mg c Pt := by
    refine ⟨?_, ?_, fun z => ?_⟩
    · obtain ⟨oc, us, file, tf, flags, tg, inF, text, tt, e1, r1, r2, r3, r⟩ := hd0
      refine ⟨oc, us, file, tf, flags, tg, inF, text, tt, hidT_get e1 (free e1 (fun i m y => ?_) fun y => ?_), r1, r2, r3, r⟩
      · rw [r2] at y
        cases y
      · rw [r2] at y
        cases y
        simp at r3
    · obtain ⟨bm, ob, b1, b2, b3, b4, b5, b6⟩ := G.T.bmain
      refine ⟨bm, ob, b1, b2, fun y => ?_, fun y => ?_, hidT_get b3 (free b3 (fun i m y => ?_) fun y => ?_), b4, b5, b6⟩
      · obtain ⟨og2, es, ep, e, hd2, _⟩ := G.T.g
        rw [y, e] at b3
        cases b3
        rw [hd2] at b6
        cases b6
      · rw [y, hPt] at b3
        cases b3
        cases b6
      · rw [b6] at y
        cases y
      · rw [b6] at y
        cases y
    · obtain ⟨og2, es, ep, e, hd2, _⟩ := G.T.g
      rw [z, hPt] at e
      cases e
      cases hd2
  have sees : Sees l.prog (hidT s1.heap T) := ⟨(by
    have z := G.T.seer hi
    exact ⟨let ⟨mc, h1, h2⟩ := z.statics; ⟨mc, ns2 h1, h2⟩, let ⟨mm, h1, h2⟩ := z.mods; ⟨mm, ns2 h1, h2⟩, let ⟨mb, h1, h2⟩ := z.imp; ⟨mb, ns2 h1, h2⟩, let ⟨mg', bm, ob, h1, h2, h3, h4, h5⟩ := z.main; ⟨mg', bm, ob, ns2 h1, h2, hidT_get h3 (by
      cases tz : T bm with
      | none => rfl
      | some u =>
        rcases only bm u tz with ⟨rfl, _⟩ | ⟨rfl, _, _⟩
        · rw [hPt] at h3
          cases h3
          exact absurd h4 (by simp)
        · rw [hobj] at h3
          cases h3
          exact absurd h4 (by simp [seqObj])), h4, h5⟩⟩), ht⟩
  have ev : Env0 l.prog w (K w.params) mg (hidT s1.heap T) callerA [] s1 T :=
    { frames := rfl, mod := md, bs := (fun b ob z => of_hidT z), bsz := Nat.le_of_eq (hidT_size _ _), funs := trivial, frf := (fun b hb => nomatch (show b ∈ ([] : List Addr) from hb)), hok := hok, bare := .of_eq hgens }
  have tq : TbQ T Pt := LamX.TabS.nil hTP
  refine codeAny_mono ((hF c Pt _ h4 hTo inB (ns2 G.T.g) tB sees).go callerA [] s1 T ⟨[.ref a], []⟩ [.ref a] [.ref a] (fun v _ => v = .bl true) E0 rfl hr ev (bnd s1 (.ref a)) (.cons rfl .nil) ⟨a, ns, rfl, hlen, sq, (fun P z => by rw [hTo] at z; cases z; exact tq), fun _ => rfl⟩) fun r s' z => ?_
  cases r with
  | error e => exact (show False from z).elim
  | ok fl =>
    cases fl with
    | next => exact (show False from z).elim
    | brk => exact (show False from z).elim
    | cont => exact (show False from z).elim
    | ret u =>
      obtain ⟨v, H2, os, bare, un, ok2, rv, qv⟩ := z
      cases (show v = V.bl true from qv)
      cases (show u = Value.bool true from rv)
      obtain ⟨more, tz2⟩ := un.tbls Pt #[] hTP
      have grown : s'.heap.get? Pt = some { cls := .none, data := .fields (#[] ++ more) } := ok2 Pt _ tz2
      have rest : ∀ b ob, b ≠ Pt → s1.heap.get? b = some ob → s'.heap.get? b = some ob := fun b ob nb y => by
        cases tz : T b with
        | none => exact un.keep b ob y tz (fun m => nomatch (show b ∈ ([] : List Addr) from m)) (fun m => nomatch m)
        | some u =>
          rcases only b u tz with ⟨e, _⟩ | ⟨rfl, rfl, _⟩
          · exact absurd e nb
          · have z2 := (ok2 b _ (un.frzs b _ _ tz)).1
            rw [hobj] at y
            cases y
            exact z2
      refine ⟨rfl, ⟨fun b ob y => ?_, fun b ob y => ?_⟩, os, bare⟩
      · by_cases e : b = Pt
        · subst e
          rw [hPt] at y
          cases y
          exact .inr (.inl ⟨h6.isCodeTable, rfl, #[], more, rfl, grown⟩)
        · exact .inl (rest b ob e y)
      · by_cases e : b = Pt
        · subst e
          exact ⟨_, grown⟩
        · exact ⟨ob, rest b ob e y⟩
end Vd
set_option Elab.async false
set_option linter.all false
set_option maxRecDepth 100000
set_option maxHeartbeats 4000000
namespace My
open PySem PySem.Spec PyProof.Rows L2 Vd
def topS (i : Nat) : Stmt := PySem.Challenge.pw_framecams_k86_whole_folds_and_axes.main.body.getD i (.Pass ⟨0, 0, 0, 0⟩)
abbrev s_is_whole : Stmt := topS 11
abbrev N_is_whole : List Str := ["value"]
theorem sc_is_whole : FnScope N_is_whole ["value"] (defScope s_is_whole) := ⟨rfl, rfl, rfl, by decide +kernel, rfl, by decide +kernel, by decide +kernel⟩
abbrev s_is_fraction : Stmt := topS 12
abbrev N_is_fraction : List Str := ["value", "n", "m"]
theorem sc_is_fraction : FnScope N_is_fraction ["value"] (defScope s_is_fraction) := ⟨rfl, rfl, rfl, by decide +kernel, rfl, by decide +kernel, by decide +kernel⟩
abbrev s_is_fraction_pair : Stmt := topS 13
abbrev N_is_fraction_pair : List Str := ["value"]
theorem sc_is_fraction_pair : FnScope N_is_fraction_pair ["value"] (defScope s_is_fraction_pair) := ⟨rfl, rfl, rfl, by decide +kernel, rfl, by decide +kernel, by decide +kernel⟩
abbrev s_check_fraction : Stmt := topS 14
abbrev s_ratio : Stmt := topS 15
abbrev N_ratio : List Str := ["n", "m", "shared"]
theorem sc_ratio : FnScope N_ratio ["n", "m"] (defScope s_ratio) := ⟨rfl, rfl, rfl, by decide +kernel, rfl, by decide +kernel, by decide +kernel⟩
abbrev s_ratio_sum : Stmt := topS 16
abbrev N_ratio_sum : List Str := ["one", "other"]
theorem sc_ratio_sum : FnScope N_ratio_sum ["one", "other"] (defScope s_ratio_sum) := ⟨rfl, rfl, rfl, by decide +kernel, rfl, by decide +kernel, by decide +kernel⟩
abbrev s_ratio_product : Stmt := topS 17
abbrev N_ratio_product : List Str := ["one", "other"]
theorem sc_ratio_product : FnScope N_ratio_product ["one", "other"] (defScope s_ratio_product) := ⟨rfl, rfl, rfl, by decide +kernel, rfl, by decide +kernel, by decide +kernel⟩
abbrev s_ratio_negative : Stmt := topS 18
abbrev N_ratio_negative : List Str := ["fraction"]
theorem sc_ratio_negative : FnScope N_ratio_negative ["fraction"] (defScope s_ratio_negative) := ⟨rfl, rfl, rfl, by decide +kernel, rfl, by decide +kernel, by decide +kernel⟩
abbrev s_trimmed : Stmt := topS 21
abbrev s_scaled_worth : Stmt := topS 22
abbrev s_slope_of : Stmt := topS 23
abbrev s_primitive : Stmt := topS 24
abbrev s_quotient : Stmt := topS 25
abbrev s_digits_of : Stmt := topS 26
abbrev s_shared_factor : Stmt := topS 27
abbrev s_rest_by_prime : Stmt := topS 28
abbrev s_is_surely_single : Stmt := topS 29
abbrev s_single_factors : Stmt := topS 30
abbrev s_fraction_root : Stmt := topS 33
abbrev s_remainder_at : Stmt := topS 34
abbrev s_roots_by : Stmt := topS 35
abbrev s_has_clear_roots : Stmt := topS 36
abbrev s_lifted : Stmt := topS 37
abbrev s_is_turn : Stmt := topS 41
abbrev N_is_turn : List Str := ["value", "a", "m", "b", "k"]
theorem sc_is_turn : FnScope N_is_turn ["value"] (defScope s_is_turn) := ⟨rfl, rfl, rfl, by decide +kernel, rfl, by decide +kernel, by decide +kernel⟩
abbrev s_check_turn : Stmt := topS 42
abbrev N_check_turn : List Str := ["turn"]
theorem sc_check_turn : FnScope N_check_turn ["turn"] (defScope s_check_turn) := ⟨rfl, rfl, rfl, by decide +kernel, rfl, by decide +kernel, by decide +kernel⟩
abbrev s_check_turns : Stmt := topS 43
abbrev N_check_turns : List Str := ["turns", "index", "turn"]
theorem sc_check_turns : FnScope N_check_turns ["turns"] (defScope s_check_turns) := ⟨rfl, rfl, rfl, by decide +kernel, rfl, by decide +kernel, by decide +kernel⟩
abbrev s_turn_of : Stmt := topS 44
abbrev s_join_turns : Stmt := topS 45
abbrev N_join_turns : List Str := ["turn", "other", "a", "m", "b", "_", "c", "k", "d"]
theorem sc_join_turns : FnScope N_join_turns ["turn", "other"] (defScope s_join_turns) := ⟨rfl, rfl, rfl, by decide +kernel, rfl, by decide +kernel, by decide +kernel⟩
abbrev s_back : Stmt := topS 46
abbrev N_back : List Str := ["turn"]
theorem sc_back : FnScope N_back ["turn"] (defScope s_back) := ⟨rfl, rfl, rfl, by decide +kernel, rfl, by decide +kernel, by decide +kernel⟩
abbrev s_join_powers : Stmt := topS 47
abbrev N_join_powers : List Str := ["turn", "other", "a", "m", "b", "_", "c", "k", "d"]
theorem sc_join_powers : FnScope N_join_powers ["turn", "other"] (defScope s_join_powers) := ⟨rfl, rfl, rfl, by decide +kernel, rfl, by decide +kernel, by decide +kernel⟩
abbrev s_turn_times : Stmt := topS 48
abbrev N_turn_times : List Str := ["turn", "times", "half", "double"]
theorem sc_turn_times : FnScope N_turn_times ["turn", "times"] (defScope s_turn_times) := ⟨rfl, rfl, rfl, by decide +kernel, rfl, by decide +kernel, by decide +kernel⟩
abbrev s_in_order : Stmt := topS 49
abbrev N_in_order : List Str := ["turns", "shared", "turn"]
theorem sc_in_order : FnScope N_in_order ["turns"] (defScope s_in_order) := ⟨rfl, rfl, rfl, by decide +kernel, rfl, by decide +kernel, by decide +kernel⟩
abbrev s_order_key : Stmt := topS 50
abbrev N_order_key : List Str := ["turn", "shared", "a", "m", "b", "_", "cosine"]
theorem sc_order_key : FnScope N_order_key ["turn", "shared"] (defScope s_order_key) := ⟨rfl, rfl, rfl, by decide +kernel, rfl, by decide +kernel, by decide +kernel⟩
abbrev s_is_wave : Stmt := topS 54
abbrev N_is_wave : List Str := ["value", "first", "pairs", "pair"]
theorem sc_is_wave : FnScope N_is_wave ["value"] (defScope s_is_wave) := ⟨rfl, rfl, rfl, by decide +kernel, rfl, by decide +kernel, by decide +kernel⟩
abbrev s_check_wave : Stmt := topS 55
abbrev N_check_wave : List Str := ["wave"]
theorem sc_check_wave : FnScope N_check_wave ["wave"] (defScope s_check_wave) := ⟨rfl, rfl, rfl, by decide +kernel, rfl, by decide +kernel, by decide +kernel⟩
abbrev s_made_wave : Stmt := topS 56
abbrev N_made_wave : List Str := ["first", "pairs", "many"]
theorem sc_made_wave : FnScope N_made_wave ["first", "pairs"] (defScope s_made_wave) := ⟨rfl, rfl, rfl, by decide +kernel, rfl, by decide +kernel, by decide +kernel⟩
abbrev s_pair_at : Stmt := topS 57
abbrev N_pair_at : List Str := ["wave", "number", "pairs"]
theorem sc_pair_at : FnScope N_pair_at ["wave", "number"] (defScope s_pair_at) := ⟨rfl, rfl, rfl, by decide +kernel, rfl, by decide +kernel, by decide +kernel⟩
abbrev s_pair_product : Stmt := topS 58
abbrev N_pair_product : List Str := ["one", "other"]
theorem sc_pair_product : FnScope N_pair_product ["one", "other"] (defScope s_pair_product) := ⟨rfl, rfl, rfl, by decide +kernel, rfl, by decide +kernel, by decide +kernel⟩
abbrev s_mirrored : Stmt := topS 59
abbrev N_mirrored : List Str := ["wave", "first", "pairs", "p", "q"]
theorem sc_mirrored : FnScope N_mirrored ["wave"] (defScope s_mirrored) := ⟨rfl, rfl, rfl, by decide +kernel, rfl, by decide +kernel, by decide +kernel⟩
abbrev s_harmonics_of : Stmt := topS 60
abbrev N_harmonics_of : List Str := ["wave", "j", "pair"]
theorem sc_harmonics_of : FnScope N_harmonics_of ["wave"] (defScope s_harmonics_of) := ⟨rfl, rfl, rfl, by decide +kernel, rfl, by decide +kernel, by decide +kernel⟩
abbrev s_common_size : Stmt := topS 62
abbrev N_common_size : List Str := ["waves", "size", "first", "pairs", "p", "q"]
theorem sc_common_size : FnScope N_common_size ["waves"] (defScope s_common_size) := ⟨rfl, rfl, rfl, by decide +kernel, rfl, by decide +kernel, by decide +kernel⟩
abbrev s_whole_wave : Stmt := topS 63
abbrev N_whole_wave : List Str := ["wave", "size", "first", "pairs", "whole", "p", "q"]
theorem sc_whole_wave : FnScope N_whole_wave ["wave", "size"] (defScope s_whole_wave) := ⟨rfl, rfl, rfl, by decide +kernel, rfl, by decide +kernel, by decide +kernel⟩
abbrev s_half_row : Stmt := topS 64
abbrev N_half_row : List Str := ["whole", "quarter", "row", "pairs", "j", "p", "q", "signed", "grown", "one", "other", "k", "number"]
theorem sc_half_row : FnScope N_half_row ["whole", "quarter"] (defScope s_half_row) := ⟨rfl, rfl, rfl, by decide +kernel, rfl, by decide +kernel, by decide +kernel⟩
abbrev s_quarter_rows : Stmt := topS 66
abbrev N_quarter_rows : List Str := ["wave", "whole", "quarter"]
theorem sc_quarter_rows : FnScope N_quarter_rows ["wave"] (defScope s_quarter_rows) := ⟨rfl, rfl, rfl, by decide +kernel, rfl, by decide +kernel, by decide +kernel⟩
abbrev s_zero_turn : Stmt := topS 67
abbrev N_zero_turn : List Str := ["wave", "row", "half"]
theorem sc_zero_turn : FnScope N_zero_turn ["wave"] (defScope s_zero_turn) := ⟨rfl, rfl, rfl, by decide +kernel, rfl, by decide +kernel, by decide +kernel⟩
abbrev s_are_alike : Stmt := topS 73
abbrev N_are_alike : List Str := ["wave", "other"]
theorem sc_are_alike : FnScope N_are_alike ["wave", "other"] (defScope s_are_alike) := ⟨rfl, rfl, rfl, by decide +kernel, rfl, by decide +kernel, by decide +kernel⟩
abbrev s_are_mirror_alike : Stmt := topS 74
abbrev N_are_mirror_alike : List Str := ["wave", "other"]
theorem sc_are_mirror_alike : FnScope N_are_mirror_alike ["wave", "other"] (defScope s_are_mirror_alike) := ⟨rfl, rfl, rfl, by decide +kernel, rfl, by decide +kernel, by decide +kernel⟩
abbrev s_has_axis : Stmt := topS 75
abbrev N_has_axis : List Str := ["wave"]
theorem sc_has_axis : FnScope N_has_axis ["wave"] (defScope s_has_axis) := ⟨rfl, rfl, rfl, by decide +kernel, rfl, by decide +kernel, by decide +kernel⟩
abbrev s_fold : Stmt := topS 76
abbrev N_fold : List Str := ["wave", "shared", "harmonic"]
theorem sc_fold : FnScope N_fold ["wave"] (defScope s_fold) := ⟨rfl, rfl, rfl, by decide +kernel, rfl, by decide +kernel, by decide +kernel⟩
abbrev s_parting : Stmt := topS 77
abbrev N_parting : List Str := ["wave", "other", "harmonic", "steps", "one", "two"]
theorem sc_parting : FnScope N_parting ["wave", "other"] (defScope s_parting) := ⟨rfl, rfl, rfl, by decide +kernel, rfl, by decide +kernel, by decide +kernel⟩
abbrev s_length_square : Stmt := topS 78
abbrev N_length_square : List Str := ["pair"]
theorem sc_length_square : FnScope N_length_square ["pair"] (defScope s_length_square) := ⟨rfl, rfl, rfl, by decide +kernel, rfl, by decide +kernel, by decide +kernel⟩
abbrev s_steps_between : Stmt := topS 79
abbrev N_steps_between : List Str := ["wave", "other", "j"]
theorem sc_steps_between : FnScope N_steps_between ["wave", "other"] (defScope s_steps_between) := ⟨rfl, rfl, rfl, by decide +kernel, rfl, by decide +kernel, by decide +kernel⟩
abbrev s_step_between : Stmt := topS 80
abbrev N_step_between : List Str := ["pair", "other", "p", "q", "square", "share", "cosine", "sine"]
theorem sc_step_between : FnScope N_step_between ["pair", "other"] (defScope s_step_between) := ⟨rfl, rfl, rfl, by decide +kernel, rfl, by decide +kernel, by decide +kernel⟩
abbrev s_have_one_turn : Stmt := topS 81
abbrev N_have_one_turn : List Str := ["one", "two", "i", "step", "j", "other", "shared"]
theorem sc_have_one_turn : FnScope N_have_one_turn ["one", "two"] (defScope s_have_one_turn) := ⟨rfl, rfl, rfl, by decide +kernel, rfl, by decide +kernel, by decide +kernel⟩
abbrev s_carrying_turns : Stmt := topS 82
abbrev N_carrying_turns : List Str := ["wave", "other", "steps", "reached", "step"]
theorem sc_carrying_turns : FnScope N_carrying_turns ["wave", "other"] (defScope s_carrying_turns) := ⟨rfl, rfl, rfl, by decide +kernel, rfl, by decide +kernel, by decide +kernel⟩
abbrev s_shared_step : Stmt := topS 83
abbrev N_shared_step : List Str := ["one", "two", "times", "rest"]
theorem sc_shared_step : FnScope N_shared_step ["one", "two"] (defScope s_shared_step) := ⟨rfl, rfl, rfl, by decide +kernel, rfl, by decide +kernel, by decide +kernel⟩
abbrev s_turns_with_power : Stmt := topS 84
abbrev N_turns_with_power : List Str := ["power", "number", "c", "s", "beside", "zero", "around", "quarter", "turn"]
theorem sc_turns_with_power : FnScope N_turns_with_power ["power", "number"] (defScope s_turns_with_power) := ⟨rfl, rfl, rfl, by decide +kernel, rfl, by decide +kernel, by decide +kernel⟩
abbrev s_l_tap : Stmt := topS 86
abbrev N_l_tap : List Str := ["_law_script", "_law_lap", "_law_stir", "_law_cell", "_law_own"]
theorem sc_l_tap : FnScope N_l_tap ["_law_script", "_law_lap"] (defScope s_l_tap) := ⟨rfl, rfl, rfl, by decide +kernel, rfl, by decide +kernel, by decide +kernel⟩
abbrev s_l_dip : Stmt := topS 87
abbrev N_l_dip : List Str := ["_law_tap_here", "_law_size", "_law_digit", "_law_stir"]
theorem sc_l_dip : FnScope N_l_dip ["_law_tap_here", "_law_size"] (defScope s_l_dip) := ⟨rfl, rfl, rfl, by decide +kernel, rfl, by decide +kernel, by decide +kernel⟩
abbrev s_l_of : Stmt := topS 88
abbrev N_l_of : List Str := ["_law_tap_here", "_law_some"]
theorem sc_l_of : FnScope N_l_of ["_law_tap_here", "_law_some"] (defScope s_l_of) := ⟨rfl, rfl, rfl, by decide +kernel, rfl, by decide +kernel, by decide +kernel⟩
abbrev s_l_gcd : Stmt := topS 89
abbrev N_l_gcd : List Str := ["_law_one", "_law_two"]
theorem sc_l_gcd : FnScope N_l_gcd ["_law_one", "_law_two"] (defScope s_l_gcd) := ⟨rfl, rfl, rfl, by decide +kernel, rfl, by decide +kernel, by decide +kernel⟩
abbrev s_l_ratio : Stmt := topS 90
abbrev N_l_ratio : List Str := ["_law_up", "_law_under", "_law_by"]
theorem sc_l_ratio : FnScope N_l_ratio ["_law_up", "_law_under"] (defScope s_l_ratio) := ⟨rfl, rfl, rfl, by decide +kernel, rfl, by decide +kernel, by decide +kernel⟩
abbrev s_l_div : Stmt := topS 91
abbrev N_l_div : List Str := ["_law_one", "_law_two"]
theorem sc_l_div : FnScope N_l_div ["_law_one", "_law_two"] (defScope s_l_div) := ⟨rfl, rfl, rfl, by decide +kernel, rfl, by decide +kernel, by decide +kernel⟩
abbrev s_l_opp : Stmt := topS 92
abbrev N_l_opp : List Str := ["_law_one"]
theorem sc_l_opp : FnScope N_l_opp ["_law_one"] (defScope s_l_opp) := ⟨rfl, rfl, rfl, by decide +kernel, rfl, by decide +kernel, by decide +kernel⟩
abbrev s_l_dot : Stmt := topS 93
abbrev N_l_dot : List Str := ["_law_ones", "_law_twos", "_law_under", "_law_one", "_law_two"]
theorem sc_l_dot : FnScope N_l_dot ["_law_ones", "_law_twos"] (defScope s_l_dot) := ⟨rfl, rfl, rfl, by decide +kernel, rfl, by decide +kernel, by decide +kernel⟩
abbrev s_l_cross : Stmt := topS 94
abbrev N_l_cross : List Str := ["_law_one", "_law_two"]
theorem sc_l_cross : FnScope N_l_cross ["_law_one", "_law_two"] (defScope s_l_cross) := ⟨rfl, rfl, rfl, by decide +kernel, rfl, by decide +kernel, by decide +kernel⟩
abbrev s_l_back : Stmt := topS 95
abbrev N_l_back : List Str := ["_law_turn_here"]
theorem sc_l_back : FnScope N_l_back ["_law_turn_here"] (defScope s_l_back) := ⟨rfl, rfl, rfl, by decide +kernel, rfl, by decide +kernel, by decide +kernel⟩
abbrev s_l_climb : Stmt := topS 96
abbrev N_l_climb : List Str := ["_law_turn_here", "_law_times", "_law_found", "_law_step", "_law_lap"]
theorem sc_l_climb : FnScope N_l_climb ["_law_turn_here", "_law_times"] (defScope s_l_climb) := ⟨rfl, rfl, rfl, by decide +kernel, rfl, by decide +kernel, by decide +kernel⟩
abbrev s_l_angle : Stmt := topS 97
abbrev N_l_angle : List Str := ["_law_half", "_law_up", "_law_under", "_law_square"]
theorem sc_l_angle : FnScope N_l_angle ["_law_half"] (defScope s_l_angle) := ⟨rfl, rfl, rfl, by decide +kernel, rfl, by decide +kernel, by decide +kernel⟩
abbrev s_l_turn : Stmt := topS 98
abbrev N_l_turn : List Str := ["_law_tap_here", "_law_way", "_law_wide", "_law_up"]
theorem sc_l_turn : FnScope N_l_turn ["_law_tap_here"] (defScope s_l_turn) := ⟨rfl, rfl, rfl, by decide +kernel, rfl, by decide +kernel, by decide +kernel⟩
abbrev s_l_bit : Stmt := topS 99
abbrev N_l_bit : List Str := ["_law_tap_here", "_law_way", "_law_up"]
theorem sc_l_bit : FnScope N_l_bit ["_law_tap_here"] (defScope s_l_bit) := ⟨rfl, rfl, rfl, by decide +kernel, rfl, by decide +kernel, by decide +kernel⟩
abbrev s_l_trim : Stmt := topS 100
abbrev N_l_trim : List Str := ["_law_lift", "_law_pairs", "_law_some"]
theorem sc_l_trim : FnScope N_l_trim ["_law_lift", "_law_pairs"] (defScope s_l_trim) := ⟨rfl, rfl, rfl, by decide +kernel, rfl, by decide +kernel, by decide +kernel⟩
abbrev s_l_turned : Stmt := topS 101
abbrev N_l_turned : List Str := ["_law_wave", "_law_turn_here", "_law_z", "_law_pairs", "_law_pair"]
theorem sc_l_turned : FnScope N_l_turned ["_law_wave", "_law_turn_here"] (defScope s_l_turned) := ⟨rfl, rfl, rfl, by decide +kernel, rfl, by decide +kernel, by decide +kernel⟩
abbrev s_l_mirror : Stmt := topS 102
abbrev N_l_mirror : List Str := ["_law_wave", "_law_pair"]
theorem sc_l_mirror : FnScope N_l_mirror ["_law_wave"] (defScope s_l_mirror) := ⟨rfl, rfl, rfl, by decide +kernel, rfl, by decide +kernel, by decide +kernel⟩
abbrev s_l_plain : Stmt := topS 103
abbrev N_l_plain : List Str := ["_law_tap_here", "_law_some"]
theorem sc_l_plain : FnScope N_l_plain ["_law_tap_here"] (defScope s_l_plain) := ⟨rfl, rfl, rfl, by decide +kernel, rfl, by decide +kernel, by decide +kernel⟩
abbrev s_l_numbers : Stmt := topS 104
abbrev N_l_numbers : List Str := ["_law_wave", "_law_j", "_law_pair"]
theorem sc_l_numbers : FnScope N_l_numbers ["_law_wave"] (defScope s_l_numbers) := ⟨rfl, rfl, rfl, by decide +kernel, rfl, by decide +kernel, by decide +kernel⟩
abbrev s_l_shared : Stmt := topS 105
abbrev N_l_shared : List Str := ["_law_one", "_law_two", "_law_size", "_law_found"]
theorem sc_l_shared : FnScope N_l_shared ["_law_one", "_law_two"] (defScope s_l_shared) := ⟨rfl, rfl, rfl, by decide +kernel, rfl, by decide +kernel, by decide +kernel⟩
abbrev s_l_joint : Stmt := topS 106
abbrev N_l_joint : List Str := ["_law_one", "_law_two", "_law_j", "_law_r", "_law_k", "_law_s", "_law_by", "_law_times", "_law_found"]
theorem sc_l_joint : FnScope N_l_joint ["_law_one", "_law_two"] (defScope s_l_joint) := ⟨rfl, rfl, rfl, by decide +kernel, rfl, by decide +kernel, by decide +kernel⟩
abbrev s_l_settled : Stmt := topS 107
abbrev N_l_settled : List Str := ["_law_one", "_law_two", "_law_ones", "_law_twos", "_law_found", "_law_here", "_law_there", "_law_step", "_law_each"]
theorem sc_l_settled : FnScope N_l_settled ["_law_one", "_law_two"] (defScope s_l_settled) := ⟨rfl, rfl, rfl, by decide +kernel, rfl, by decide +kernel, by decide +kernel⟩
abbrev s_l_are_alike : Stmt := topS 108
abbrev N_l_are_alike : List Str := ["_law_one", "_law_two"]
theorem sc_l_are_alike : FnScope N_l_are_alike ["_law_one", "_law_two"] (defScope s_l_are_alike) := ⟨rfl, rfl, rfl, by decide +kernel, rfl, by decide +kernel, by decide +kernel⟩
abbrev s_l_spun : Stmt := topS 109
abbrev N_l_spun : List Str := ["_law_wave", "_law_g", "_law_s", "_law_pairs", "_law_j", "_law_pair", "_law_found"]
theorem sc_l_spun : FnScope N_l_spun ["_law_wave", "_law_g", "_law_s"] (defScope s_l_spun) := ⟨rfl, rfl, rfl, by decide +kernel, rfl, by decide +kernel, by decide +kernel⟩
abbrev s_l_stepped : Stmt := topS 110
abbrev N_l_stepped : List Str := ["_law_tap_here", "_law_most", "_law_d", "_law_nil", "_law_pairs", "_law_j", "_law_p", "_law_q", "_law_sort"]
theorem sc_l_stepped : FnScope N_l_stepped ["_law_tap_here", "_law_most"] (defScope s_l_stepped) := ⟨rfl, rfl, rfl, by decide +kernel, rfl, by decide +kernel, by decide +kernel⟩
abbrev s_l_common : Stmt := topS 111
abbrev N_l_common : List Str := ["_law_wave", "_law_found", "_law_each"]
theorem sc_l_common : FnScope N_l_common ["_law_wave"] (defScope s_l_common) := ⟨rfl, rfl, rfl, by decide +kernel, rfl, by decide +kernel, by decide +kernel⟩
abbrev s_l_unit : Stmt := topS 112
abbrev N_l_unit : List Str := ["_law_k", "_law_e", "_law_f", "_law_quarters", "_law_slants"]
theorem sc_l_unit : FnScope N_l_unit ["_law_k", "_law_e", "_law_f"] (defScope s_l_unit) := ⟨rfl, rfl, rfl, by decide +kernel, rfl, by decide +kernel, by decide +kernel⟩
abbrev s_l_drawn : Stmt := topS 113
abbrev N_l_drawn : List Str := ["_law_tap_here", "_law_one", "_law_d", "_law_flat", "_law_pair"]
theorem sc_l_drawn : FnScope N_l_drawn ["_law_tap_here"] (defScope s_l_drawn) := ⟨rfl, rfl, rfl, by decide +kernel, rfl, by decide +kernel, by decide +kernel⟩
abbrev s_l_right : Stmt := topS 114
abbrev N_l_right : List Str := ["_law_tap_here", "_law_one", "_law_d", "_law_due", "_law_seen", "_law_some", "_law_a"]
theorem sc_l_right : FnScope N_l_right ["_law_tap_here"] (defScope s_l_right) := ⟨rfl, rfl, rfl, by decide +kernel, rfl, by decide +kernel, by decide +kernel⟩
abbrev s_law : Stmt := topS 115
abbrev N_law : List Str := ["_law_script", "_law_lap"]
theorem sc_law : FnScope N_law ["_law_script"] (defScope s_law) := ⟨rfl, rfl, rfl, by decide +kernel, rfl, by decide +kernel, by decide +kernel⟩
def gk_fold_wave {α : Type} : List α → List α → List α
  | [], [a] => [a]
  | _, _ => []
theorem kb_fold_wave {K : Fr} {f : Addr} {fd : FuncData} (F : Fun K "fold" "fold" s_fold f fd) : KBinds K fd ["wave"] ["wave"] (gk_fold_wave (α := Value)) (gk_fold_wave (α := V)) := by
  obtain ⟨oc, od, kV, doc, pm, an, cdv, ct, osl, rfl, lk, hcd⟩ := F.ex
  refine ⟨fun s us ws X hl => ?_, fun {vs us zs ws} r1 r2 => ?_⟩
  · have hz : (gk_fold_wave us ws).length = 1 := hl
    rcases us with _ | ⟨u, us⟩
    · rcases ws with _ | ⟨a, _ | ⟨e, ws⟩⟩
      · exfalso; exact (show (0 : Nat) ≠ 1 by decide) hz
      · exact BindsTo.of_eq rfl
      · exfalso; exact (show (0 : Nat) ≠ 1 by decide) hz
    · exfalso; exact (show (0 : Nat) ≠ 1 by decide) hz
  · cases r1 with
    | cons x y => exact .nil
    | nil =>
      cases r2 with
      | nil => exact .nil
      | cons p0 h1 =>
        cases h1 with
        | cons p q => exact .nil
        | nil => exact (.cons p0 .nil)
theorem tp_fold_wave {K : Fr} {H : Hp} {vs : List V} {ds : List PyData} (h : TpAll K H vs ds) : TpAll K H (gk_fold_wave [] vs) (gk_fold_wave [] ds) := by
  cases h with
  | nil => exact .nil
  | cons p0 h1 =>
    cases h1 with
    | cons p q => exact .nil
    | nil => exact (.cons p0 .nil)
def gk_has_axis_wave {α : Type} : List α → List α → List α
  | [], [a] => [a]
  | _, _ => []
theorem kb_has_axis_wave {K : Fr} {f : Addr} {fd : FuncData} (F : Fun K "has_axis" "has_axis" s_has_axis f fd) : KBinds K fd ["wave"] ["wave"] (gk_has_axis_wave (α := Value)) (gk_has_axis_wave (α := V)) := by
  obtain ⟨oc, od, kV, doc, pm, an, cdv, ct, osl, rfl, lk, hcd⟩ := F.ex
  refine ⟨fun s us ws X hl => ?_, fun {vs us zs ws} r1 r2 => ?_⟩
  · have hz : (gk_has_axis_wave us ws).length = 1 := hl
    rcases us with _ | ⟨u, us⟩
    · rcases ws with _ | ⟨a, _ | ⟨e, ws⟩⟩
      · exfalso; exact (show (0 : Nat) ≠ 1 by decide) hz
      · exact BindsTo.of_eq rfl
      · exfalso; exact (show (0 : Nat) ≠ 1 by decide) hz
    · exfalso; exact (show (0 : Nat) ≠ 1 by decide) hz
  · cases r1 with
    | cons x y => exact .nil
    | nil =>
      cases r2 with
      | nil => exact .nil
      | cons p0 h1 =>
        cases h1 with
        | cons p q => exact .nil
        | nil => exact (.cons p0 .nil)
theorem tp_has_axis_wave {K : Fr} {H : Hp} {vs : List V} {ds : List PyData} (h : TpAll K H vs ds) : TpAll K H (gk_has_axis_wave [] vs) (gk_has_axis_wave [] ds) := by
  cases h with
  | nil => exact .nil
  | cons p0 h1 =>
    cases h1 with
    | cons p q => exact .nil
    | nil => exact (.cons p0 .nil)
structure Tx (K : PySem.W.Frag) (mg : Str → Option Value) where
  f_is_whole : Addr
  fd_is_whole : FuncData
  F_is_whole : Fun K "is_whole" "is_whole" s_is_whole f_is_whole fd_is_whole
  m_is_whole : mg "is_whole" = some (.ref f_is_whole)
  b_is_whole : Binds K fd_is_whole ["value"] []
  f_is_fraction : Addr
  fd_is_fraction : FuncData
  F_is_fraction : Fun K "is_fraction" "is_fraction" s_is_fraction f_is_fraction fd_is_fraction
  m_is_fraction : mg "is_fraction" = some (.ref f_is_fraction)
  b_is_fraction : Binds K fd_is_fraction ["value"] []
  f_is_fraction_pair : Addr
  fd_is_fraction_pair : FuncData
  F_is_fraction_pair : Fun K "is_fraction_pair" "is_fraction_pair" s_is_fraction_pair f_is_fraction_pair fd_is_fraction_pair
  m_is_fraction_pair : mg "is_fraction_pair" = some (.ref f_is_fraction_pair)
  b_is_fraction_pair : Binds K fd_is_fraction_pair ["value"] []
  f_check_fraction : Addr
  fd_check_fraction : FuncData
  F_check_fraction : Fun K "check_fraction" "check_fraction" s_check_fraction f_check_fraction fd_check_fraction
  m_check_fraction : mg "check_fraction" = some (.ref f_check_fraction)
  b_check_fraction : Binds K fd_check_fraction ["fraction"] []
  f_ratio : Addr
  fd_ratio : FuncData
  F_ratio : Fun K "ratio" "ratio" s_ratio f_ratio fd_ratio
  m_ratio : mg "ratio" = some (.ref f_ratio)
  b_ratio : Binds K fd_ratio ["n", "m"] []
  f_ratio_sum : Addr
  fd_ratio_sum : FuncData
  F_ratio_sum : Fun K "ratio_sum" "ratio_sum" s_ratio_sum f_ratio_sum fd_ratio_sum
  m_ratio_sum : mg "ratio_sum" = some (.ref f_ratio_sum)
  b_ratio_sum : Binds K fd_ratio_sum ["one", "other"] []
  f_ratio_product : Addr
  fd_ratio_product : FuncData
  F_ratio_product : Fun K "ratio_product" "ratio_product" s_ratio_product f_ratio_product fd_ratio_product
  m_ratio_product : mg "ratio_product" = some (.ref f_ratio_product)
  b_ratio_product : Binds K fd_ratio_product ["one", "other"] []
  f_ratio_negative : Addr
  fd_ratio_negative : FuncData
  F_ratio_negative : Fun K "ratio_negative" "ratio_negative" s_ratio_negative f_ratio_negative fd_ratio_negative
  m_ratio_negative : mg "ratio_negative" = some (.ref f_ratio_negative)
  b_ratio_negative : Binds K fd_ratio_negative ["fraction"] []
  f_trimmed : Addr
  fd_trimmed : FuncData
  F_trimmed : Fun K "trimmed" "trimmed" s_trimmed f_trimmed fd_trimmed
  m_trimmed : mg "trimmed" = some (.ref f_trimmed)
  b_trimmed : Binds K fd_trimmed ["row"] []
  f_scaled_worth : Addr
  fd_scaled_worth : FuncData
  F_scaled_worth : Fun K "scaled_worth" "scaled_worth" s_scaled_worth f_scaled_worth fd_scaled_worth
  m_scaled_worth : mg "scaled_worth" = some (.ref f_scaled_worth)
  b_scaled_worth : Binds K fd_scaled_worth ["row", "n", "m"] []
  f_slope_of : Addr
  fd_slope_of : FuncData
  F_slope_of : Fun K "slope_of" "slope_of" s_slope_of f_slope_of fd_slope_of
  m_slope_of : mg "slope_of" = some (.ref f_slope_of)
  b_slope_of : Binds K fd_slope_of ["row"] []
  f_primitive : Addr
  fd_primitive : FuncData
  F_primitive : Fun K "primitive" "primitive" s_primitive f_primitive fd_primitive
  m_primitive : mg "primitive" = some (.ref f_primitive)
  b_primitive : Binds K fd_primitive ["row"] []
  f_quotient : Addr
  fd_quotient : FuncData
  F_quotient : Fun K "quotient" "quotient" s_quotient f_quotient fd_quotient
  m_quotient : mg "quotient" = some (.ref f_quotient)
  b_quotient : Binds K fd_quotient ["row", "by"] []
  f_digits_of : Addr
  fd_digits_of : FuncData
  F_digits_of : Fun K "digits_of" "digits_of" s_digits_of f_digits_of fd_digits_of
  m_digits_of : mg "digits_of" = some (.ref f_digits_of)
  b_digits_of : Binds K fd_digits_of ["number", "base"] []
  f_shared_factor : Addr
  fd_shared_factor : FuncData
  F_shared_factor : Fun K "shared_factor" "shared_factor" s_shared_factor f_shared_factor fd_shared_factor
  m_shared_factor : mg "shared_factor" = some (.ref f_shared_factor)
  b_shared_factor : Binds K fd_shared_factor ["one", "other"] []
  f_rest_by_prime : Addr
  fd_rest_by_prime : FuncData
  F_rest_by_prime : Fun K "rest_by_prime" "rest_by_prime" s_rest_by_prime f_rest_by_prime fd_rest_by_prime
  m_rest_by_prime : mg "rest_by_prime" = some (.ref f_rest_by_prime)
  b_rest_by_prime : Binds K fd_rest_by_prime ["one", "other"] []
  f_is_surely_single : Addr
  fd_is_surely_single : FuncData
  F_is_surely_single : Fun K "is_surely_single" "is_surely_single" s_is_surely_single f_is_surely_single fd_is_surely_single
  m_is_surely_single : mg "is_surely_single" = some (.ref f_is_surely_single)
  b_is_surely_single : Binds K fd_is_surely_single ["row"] []
  f_single_factors : Addr
  fd_single_factors : FuncData
  F_single_factors : Fun K "single_factors" "single_factors" s_single_factors f_single_factors fd_single_factors
  m_single_factors : mg "single_factors" = some (.ref f_single_factors)
  b_single_factors : Binds K fd_single_factors ["row"] []
  f_fraction_root : Addr
  fd_fraction_root : FuncData
  F_fraction_root : Fun K "fraction_root" "fraction_root" s_fraction_root f_fraction_root fd_fraction_root
  m_fraction_root : mg "fraction_root" = some (.ref f_fraction_root)
  b_fraction_root : Binds K fd_fraction_root ["row"] []
  f_remainder_at : Addr
  fd_remainder_at : FuncData
  F_remainder_at : Fun K "remainder_at" "remainder_at" s_remainder_at f_remainder_at fd_remainder_at
  m_remainder_at : mg "remainder_at" = some (.ref f_remainder_at)
  b_remainder_at : Binds K fd_remainder_at ["row", "place", "modulus"] []
  f_roots_by : Addr
  fd_roots_by : FuncData
  F_roots_by : Fun K "roots_by" "roots_by" s_roots_by f_roots_by fd_roots_by
  m_roots_by : mg "roots_by" = some (.ref f_roots_by)
  b_roots_by : Binds K fd_roots_by ["row", "modulus"] []
  f_has_clear_roots : Addr
  fd_has_clear_roots : FuncData
  F_has_clear_roots : Fun K "has_clear_roots" "has_clear_roots" s_has_clear_roots f_has_clear_roots fd_has_clear_roots
  m_has_clear_roots : mg "has_clear_roots" = some (.ref f_has_clear_roots)
  b_has_clear_roots : Binds K fd_has_clear_roots ["row", "slope", "modulus"] []
  f_lifted : Addr
  fd_lifted : FuncData
  F_lifted : Fun K "lifted" "lifted" s_lifted f_lifted fd_lifted
  m_lifted : mg "lifted" = some (.ref f_lifted)
  b_lifted : Binds K fd_lifted ["row", "slope", "root", "modulus", "bound", "last"] []
  f_is_turn : Addr
  fd_is_turn : FuncData
  F_is_turn : Fun K "is_turn" "is_turn" s_is_turn f_is_turn fd_is_turn
  m_is_turn : mg "is_turn" = some (.ref f_is_turn)
  b_is_turn : Binds K fd_is_turn ["value"] []
  f_check_turn : Addr
  fd_check_turn : FuncData
  F_check_turn : Fun K "check_turn" "check_turn" s_check_turn f_check_turn fd_check_turn
  m_check_turn : mg "check_turn" = some (.ref f_check_turn)
  b_check_turn : Binds K fd_check_turn ["turn"] []
  f_check_turns : Addr
  fd_check_turns : FuncData
  F_check_turns : Fun K "check_turns" "check_turns" s_check_turns f_check_turns fd_check_turns
  m_check_turns : mg "check_turns" = some (.ref f_check_turns)
  b_check_turns : Binds K fd_check_turns ["turns"] []
  f_turn_of : Addr
  fd_turn_of : FuncData
  F_turn_of : Fun K "turn_of" "turn_of" s_turn_of f_turn_of fd_turn_of
  m_turn_of : mg "turn_of" = some (.ref f_turn_of)
  b_turn_of : Binds K fd_turn_of ["fraction"] []
  f_join_turns : Addr
  fd_join_turns : FuncData
  F_join_turns : Fun K "join_turns" "join_turns" s_join_turns f_join_turns fd_join_turns
  m_join_turns : mg "join_turns" = some (.ref f_join_turns)
  b_join_turns : Binds K fd_join_turns ["turn", "other"] []
  f_back : Addr
  fd_back : FuncData
  F_back : Fun K "back" "back" s_back f_back fd_back
  m_back : mg "back" = some (.ref f_back)
  b_back : Binds K fd_back ["turn"] []
  f_join_powers : Addr
  fd_join_powers : FuncData
  F_join_powers : Fun K "join_powers" "join_powers" s_join_powers f_join_powers fd_join_powers
  m_join_powers : mg "join_powers" = some (.ref f_join_powers)
  b_join_powers : Binds K fd_join_powers ["turn", "other"] []
  f_turn_times : Addr
  fd_turn_times : FuncData
  F_turn_times : Fun K "turn_times" "turn_times" s_turn_times f_turn_times fd_turn_times
  m_turn_times : mg "turn_times" = some (.ref f_turn_times)
  b_turn_times : Binds K fd_turn_times ["turn", "times"] []
  f_in_order : Addr
  fd_in_order : FuncData
  F_in_order : Fun K "in_order" "in_order" s_in_order f_in_order fd_in_order
  m_in_order : mg "in_order" = some (.ref f_in_order)
  b_in_order : Binds K fd_in_order ["turns"] []
  f_order_key : Addr
  fd_order_key : FuncData
  F_order_key : Fun K "order_key" "order_key" s_order_key f_order_key fd_order_key
  m_order_key : mg "order_key" = some (.ref f_order_key)
  b_order_key : Binds K fd_order_key ["turn", "shared"] []
  f_is_wave : Addr
  fd_is_wave : FuncData
  F_is_wave : Fun K "is_wave" "is_wave" s_is_wave f_is_wave fd_is_wave
  m_is_wave : mg "is_wave" = some (.ref f_is_wave)
  b_is_wave : Binds K fd_is_wave ["value"] []
  f_check_wave : Addr
  fd_check_wave : FuncData
  F_check_wave : Fun K "check_wave" "check_wave" s_check_wave f_check_wave fd_check_wave
  m_check_wave : mg "check_wave" = some (.ref f_check_wave)
  b_check_wave : Binds K fd_check_wave ["wave"] []
  f_made_wave : Addr
  fd_made_wave : FuncData
  F_made_wave : Fun K "made_wave" "made_wave" s_made_wave f_made_wave fd_made_wave
  m_made_wave : mg "made_wave" = some (.ref f_made_wave)
  b_made_wave : Binds K fd_made_wave ["first", "pairs"] []
  f_pair_at : Addr
  fd_pair_at : FuncData
  F_pair_at : Fun K "pair_at" "pair_at" s_pair_at f_pair_at fd_pair_at
  m_pair_at : mg "pair_at" = some (.ref f_pair_at)
  b_pair_at : Binds K fd_pair_at ["wave", "number"] []
  f_pair_product : Addr
  fd_pair_product : FuncData
  F_pair_product : Fun K "pair_product" "pair_product" s_pair_product f_pair_product fd_pair_product
  m_pair_product : mg "pair_product" = some (.ref f_pair_product)
  b_pair_product : Binds K fd_pair_product ["one", "other"] []
  f_mirrored : Addr
  fd_mirrored : FuncData
  F_mirrored : Fun K "mirrored" "mirrored" s_mirrored f_mirrored fd_mirrored
  m_mirrored : mg "mirrored" = some (.ref f_mirrored)
  b_mirrored : Binds K fd_mirrored ["wave"] []
  f_harmonics_of : Addr
  fd_harmonics_of : FuncData
  F_harmonics_of : Fun K "harmonics_of" "harmonics_of" s_harmonics_of f_harmonics_of fd_harmonics_of
  m_harmonics_of : mg "harmonics_of" = some (.ref f_harmonics_of)
  b_harmonics_of : Binds K fd_harmonics_of ["wave"] []
  f_common_size : Addr
  fd_common_size : FuncData
  F_common_size : Fun K "common_size" "common_size" s_common_size f_common_size fd_common_size
  m_common_size : mg "common_size" = some (.ref f_common_size)
  b_common_size : Binds K fd_common_size ["waves"] []
  f_whole_wave : Addr
  fd_whole_wave : FuncData
  F_whole_wave : Fun K "whole_wave" "whole_wave" s_whole_wave f_whole_wave fd_whole_wave
  m_whole_wave : mg "whole_wave" = some (.ref f_whole_wave)
  b_whole_wave : Binds K fd_whole_wave ["wave", "size"] []
  f_half_row : Addr
  fd_half_row : FuncData
  F_half_row : Fun K "half_row" "half_row" s_half_row f_half_row fd_half_row
  m_half_row : mg "half_row" = some (.ref f_half_row)
  b_half_row : Binds K fd_half_row ["whole", "quarter"] []
  f_quarter_rows : Addr
  fd_quarter_rows : FuncData
  F_quarter_rows : Fun K "quarter_rows" "quarter_rows" s_quarter_rows f_quarter_rows fd_quarter_rows
  m_quarter_rows : mg "quarter_rows" = some (.ref f_quarter_rows)
  b_quarter_rows : Binds K fd_quarter_rows ["wave"] []
  f_zero_turn : Addr
  fd_zero_turn : FuncData
  F_zero_turn : Fun K "zero_turn" "zero_turn" s_zero_turn f_zero_turn fd_zero_turn
  m_zero_turn : mg "zero_turn" = some (.ref f_zero_turn)
  b_zero_turn : Binds K fd_zero_turn ["wave"] []
  f_are_alike : Addr
  fd_are_alike : FuncData
  F_are_alike : Fun K "are_alike" "are_alike" s_are_alike f_are_alike fd_are_alike
  m_are_alike : mg "are_alike" = some (.ref f_are_alike)
  b_are_alike : Binds K fd_are_alike ["wave", "other"] []
  f_are_mirror_alike : Addr
  fd_are_mirror_alike : FuncData
  F_are_mirror_alike : Fun K "are_mirror_alike" "are_mirror_alike" s_are_mirror_alike f_are_mirror_alike fd_are_mirror_alike
  m_are_mirror_alike : mg "are_mirror_alike" = some (.ref f_are_mirror_alike)
  b_are_mirror_alike : Binds K fd_are_mirror_alike ["wave", "other"] []
  f_has_axis : Addr
  fd_has_axis : FuncData
  F_has_axis : Fun K "has_axis" "has_axis" s_has_axis f_has_axis fd_has_axis
  m_has_axis : mg "has_axis" = some (.ref f_has_axis)
  b_has_axis : Binds K fd_has_axis ["wave"] []
  f_fold : Addr
  fd_fold : FuncData
  F_fold : Fun K "fold" "fold" s_fold f_fold fd_fold
  m_fold : mg "fold" = some (.ref f_fold)
  b_fold : Binds K fd_fold ["wave"] []
  f_parting : Addr
  fd_parting : FuncData
  F_parting : Fun K "parting" "parting" s_parting f_parting fd_parting
  m_parting : mg "parting" = some (.ref f_parting)
  b_parting : Binds K fd_parting ["wave", "other"] []
  f_length_square : Addr
  fd_length_square : FuncData
  F_length_square : Fun K "length_square" "length_square" s_length_square f_length_square fd_length_square
  m_length_square : mg "length_square" = some (.ref f_length_square)
  b_length_square : Binds K fd_length_square ["pair"] []
  f_steps_between : Addr
  fd_steps_between : FuncData
  F_steps_between : Fun K "steps_between" "steps_between" s_steps_between f_steps_between fd_steps_between
  m_steps_between : mg "steps_between" = some (.ref f_steps_between)
  b_steps_between : Binds K fd_steps_between ["wave", "other"] []
  f_step_between : Addr
  fd_step_between : FuncData
  F_step_between : Fun K "step_between" "step_between" s_step_between f_step_between fd_step_between
  m_step_between : mg "step_between" = some (.ref f_step_between)
  b_step_between : Binds K fd_step_between ["pair", "other"] []
  f_have_one_turn : Addr
  fd_have_one_turn : FuncData
  F_have_one_turn : Fun K "have_one_turn" "have_one_turn" s_have_one_turn f_have_one_turn fd_have_one_turn
  m_have_one_turn : mg "have_one_turn" = some (.ref f_have_one_turn)
  b_have_one_turn : Binds K fd_have_one_turn ["one", "two"] []
  f_carrying_turns : Addr
  fd_carrying_turns : FuncData
  F_carrying_turns : Fun K "carrying_turns" "carrying_turns" s_carrying_turns f_carrying_turns fd_carrying_turns
  m_carrying_turns : mg "carrying_turns" = some (.ref f_carrying_turns)
  b_carrying_turns : Binds K fd_carrying_turns ["wave", "other"] []
  f_shared_step : Addr
  fd_shared_step : FuncData
  F_shared_step : Fun K "shared_step" "shared_step" s_shared_step f_shared_step fd_shared_step
  m_shared_step : mg "shared_step" = some (.ref f_shared_step)
  b_shared_step : Binds K fd_shared_step ["one", "two"] []
  f_turns_with_power : Addr
  fd_turns_with_power : FuncData
  F_turns_with_power : Fun K "turns_with_power" "turns_with_power" s_turns_with_power f_turns_with_power fd_turns_with_power
  m_turns_with_power : mg "turns_with_power" = some (.ref f_turns_with_power)
  b_turns_with_power : Binds K fd_turns_with_power ["power", "number"] []
  f_l_tap : Addr
  fd_l_tap : FuncData
  F_l_tap : Fun K "_law_tap" "_law_tap" s_l_tap f_l_tap fd_l_tap
  m_l_tap : mg "_law_tap" = some (.ref f_l_tap)
  b_l_tap : Binds K fd_l_tap ["_law_script", "_law_lap"] []
  f_l_dip : Addr
  fd_l_dip : FuncData
  F_l_dip : Fun K "_law_dip" "_law_dip" s_l_dip f_l_dip fd_l_dip
  m_l_dip : mg "_law_dip" = some (.ref f_l_dip)
  b_l_dip : Binds K fd_l_dip ["_law_tap_here", "_law_size"] []
  f_l_of : Addr
  fd_l_of : FuncData
  F_l_of : Fun K "_law_of" "_law_of" s_l_of f_l_of fd_l_of
  m_l_of : mg "_law_of" = some (.ref f_l_of)
  b_l_of : Binds K fd_l_of ["_law_tap_here", "_law_some"] []
  f_l_gcd : Addr
  fd_l_gcd : FuncData
  F_l_gcd : Fun K "_law_gcd" "_law_gcd" s_l_gcd f_l_gcd fd_l_gcd
  m_l_gcd : mg "_law_gcd" = some (.ref f_l_gcd)
  b_l_gcd : Binds K fd_l_gcd ["_law_one", "_law_two"] []
  f_l_ratio : Addr
  fd_l_ratio : FuncData
  F_l_ratio : Fun K "_law_ratio" "_law_ratio" s_l_ratio f_l_ratio fd_l_ratio
  m_l_ratio : mg "_law_ratio" = some (.ref f_l_ratio)
  b_l_ratio : Binds K fd_l_ratio ["_law_up", "_law_under"] []
  f_l_div : Addr
  fd_l_div : FuncData
  F_l_div : Fun K "_law_div" "_law_div" s_l_div f_l_div fd_l_div
  m_l_div : mg "_law_div" = some (.ref f_l_div)
  b_l_div : Binds K fd_l_div ["_law_one", "_law_two"] []
  f_l_opp : Addr
  fd_l_opp : FuncData
  F_l_opp : Fun K "_law_opp" "_law_opp" s_l_opp f_l_opp fd_l_opp
  m_l_opp : mg "_law_opp" = some (.ref f_l_opp)
  b_l_opp : Binds K fd_l_opp ["_law_one"] []
  f_l_dot : Addr
  fd_l_dot : FuncData
  F_l_dot : Fun K "_law_dot" "_law_dot" s_l_dot f_l_dot fd_l_dot
  m_l_dot : mg "_law_dot" = some (.ref f_l_dot)
  b_l_dot : Binds K fd_l_dot ["_law_ones", "_law_twos"] []
  f_l_cross : Addr
  fd_l_cross : FuncData
  F_l_cross : Fun K "_law_cross" "_law_cross" s_l_cross f_l_cross fd_l_cross
  m_l_cross : mg "_law_cross" = some (.ref f_l_cross)
  b_l_cross : Binds K fd_l_cross ["_law_one", "_law_two"] []
  f_l_back : Addr
  fd_l_back : FuncData
  F_l_back : Fun K "_law_back" "_law_back" s_l_back f_l_back fd_l_back
  m_l_back : mg "_law_back" = some (.ref f_l_back)
  b_l_back : Binds K fd_l_back ["_law_turn_here"] []
  f_l_climb : Addr
  fd_l_climb : FuncData
  F_l_climb : Fun K "_law_climb" "_law_climb" s_l_climb f_l_climb fd_l_climb
  m_l_climb : mg "_law_climb" = some (.ref f_l_climb)
  b_l_climb : Binds K fd_l_climb ["_law_turn_here", "_law_times"] []
  f_l_angle : Addr
  fd_l_angle : FuncData
  F_l_angle : Fun K "_law_angle" "_law_angle" s_l_angle f_l_angle fd_l_angle
  m_l_angle : mg "_law_angle" = some (.ref f_l_angle)
  b_l_angle : Binds K fd_l_angle ["_law_half"] []
  f_l_turn : Addr
  fd_l_turn : FuncData
  F_l_turn : Fun K "_law_turn" "_law_turn" s_l_turn f_l_turn fd_l_turn
  m_l_turn : mg "_law_turn" = some (.ref f_l_turn)
  b_l_turn : Binds K fd_l_turn ["_law_tap_here"] []
  f_l_bit : Addr
  fd_l_bit : FuncData
  F_l_bit : Fun K "_law_bit" "_law_bit" s_l_bit f_l_bit fd_l_bit
  m_l_bit : mg "_law_bit" = some (.ref f_l_bit)
  b_l_bit : Binds K fd_l_bit ["_law_tap_here"] []
  f_l_trim : Addr
  fd_l_trim : FuncData
  F_l_trim : Fun K "_law_trim" "_law_trim" s_l_trim f_l_trim fd_l_trim
  m_l_trim : mg "_law_trim" = some (.ref f_l_trim)
  b_l_trim : Binds K fd_l_trim ["_law_lift", "_law_pairs"] []
  f_l_turned : Addr
  fd_l_turned : FuncData
  F_l_turned : Fun K "_law_turned" "_law_turned" s_l_turned f_l_turned fd_l_turned
  m_l_turned : mg "_law_turned" = some (.ref f_l_turned)
  b_l_turned : Binds K fd_l_turned ["_law_wave", "_law_turn_here"] []
  f_l_mirror : Addr
  fd_l_mirror : FuncData
  F_l_mirror : Fun K "_law_mirror" "_law_mirror" s_l_mirror f_l_mirror fd_l_mirror
  m_l_mirror : mg "_law_mirror" = some (.ref f_l_mirror)
  b_l_mirror : Binds K fd_l_mirror ["_law_wave"] []
  f_l_plain : Addr
  fd_l_plain : FuncData
  F_l_plain : Fun K "_law_plain" "_law_plain" s_l_plain f_l_plain fd_l_plain
  m_l_plain : mg "_law_plain" = some (.ref f_l_plain)
  b_l_plain : Binds K fd_l_plain ["_law_tap_here"] []
  f_l_numbers : Addr
  fd_l_numbers : FuncData
  F_l_numbers : Fun K "_law_numbers" "_law_numbers" s_l_numbers f_l_numbers fd_l_numbers
  m_l_numbers : mg "_law_numbers" = some (.ref f_l_numbers)
  b_l_numbers : Binds K fd_l_numbers ["_law_wave"] []
  f_l_shared : Addr
  fd_l_shared : FuncData
  F_l_shared : Fun K "_law_shared" "_law_shared" s_l_shared f_l_shared fd_l_shared
  m_l_shared : mg "_law_shared" = some (.ref f_l_shared)
  b_l_shared : Binds K fd_l_shared ["_law_one", "_law_two"] []
  f_l_joint : Addr
  fd_l_joint : FuncData
  F_l_joint : Fun K "_law_joint" "_law_joint" s_l_joint f_l_joint fd_l_joint
  m_l_joint : mg "_law_joint" = some (.ref f_l_joint)
  b_l_joint : Binds K fd_l_joint ["_law_one", "_law_two"] []
  f_l_settled : Addr
  fd_l_settled : FuncData
  F_l_settled : Fun K "_law_settled" "_law_settled" s_l_settled f_l_settled fd_l_settled
  m_l_settled : mg "_law_settled" = some (.ref f_l_settled)
  b_l_settled : Binds K fd_l_settled ["_law_one", "_law_two"] []
  f_l_are_alike : Addr
  fd_l_are_alike : FuncData
  F_l_are_alike : Fun K "_law_are_alike" "_law_are_alike" s_l_are_alike f_l_are_alike fd_l_are_alike
  m_l_are_alike : mg "_law_are_alike" = some (.ref f_l_are_alike)
  b_l_are_alike : Binds K fd_l_are_alike ["_law_one", "_law_two"] []
  f_l_spun : Addr
  fd_l_spun : FuncData
  F_l_spun : Fun K "_law_spun" "_law_spun" s_l_spun f_l_spun fd_l_spun
  m_l_spun : mg "_law_spun" = some (.ref f_l_spun)
  b_l_spun : Binds K fd_l_spun ["_law_wave", "_law_g", "_law_s"] []
  f_l_stepped : Addr
  fd_l_stepped : FuncData
  F_l_stepped : Fun K "_law_stepped" "_law_stepped" s_l_stepped f_l_stepped fd_l_stepped
  m_l_stepped : mg "_law_stepped" = some (.ref f_l_stepped)
  b_l_stepped : Binds K fd_l_stepped ["_law_tap_here", "_law_most"] []
  f_l_common : Addr
  fd_l_common : FuncData
  F_l_common : Fun K "_law_common" "_law_common" s_l_common f_l_common fd_l_common
  m_l_common : mg "_law_common" = some (.ref f_l_common)
  b_l_common : Binds K fd_l_common ["_law_wave"] []
  f_l_unit : Addr
  fd_l_unit : FuncData
  F_l_unit : Fun K "_law_unit" "_law_unit" s_l_unit f_l_unit fd_l_unit
  m_l_unit : mg "_law_unit" = some (.ref f_l_unit)
  b_l_unit : Binds K fd_l_unit ["_law_k", "_law_e", "_law_f"] []
  f_l_drawn : Addr
  fd_l_drawn : FuncData
  F_l_drawn : Fun K "_law_drawn" "_law_drawn" s_l_drawn f_l_drawn fd_l_drawn
  m_l_drawn : mg "_law_drawn" = some (.ref f_l_drawn)
  b_l_drawn : Binds K fd_l_drawn ["_law_tap_here"] []
  f_l_right : Addr
  fd_l_right : FuncData
  F_l_right : Fun K "_law_right" "_law_right" s_l_right f_l_right fd_l_right
  m_l_right : mg "_law_right" = some (.ref f_l_right)
  b_l_right : Binds K fd_l_right ["_law_tap_here"] []
  f_law : Addr
  fd_law : FuncData
  F_law : Fun K "law" "law" s_law f_law fd_law
  m_law : mg "law" = some (.ref f_law)
  b_law : Binds K fd_law ["_law_script"] []
  kb_fold_wave : KBinds K fd_fold ["wave"] ["wave"] (gk_fold_wave (α := Value)) (gk_fold_wave (α := V))
  kb_has_axis_wave : KBinds K fd_has_axis ["wave"] ["wave"] (gk_has_axis_wave (α := Value)) (gk_has_axis_wave (α := V))
  z_abs : mg "abs" = none
  z_all : mg "all" = none
  z_bool : mg "bool" = none
  z_divmod : mg "divmod" = none
  z_enumerate : mg "enumerate" = none
  z_int : mg "int" = none
  z_isinstance : mg "isinstance" = none
  z_len : mg "len" = none
  z_list : mg "list" = none
  z_max : mg "max" = none
  z_min : mg "min" = none
  z_range : mg "range" = none
  z_repr : mg "repr" = none
  z_reversed : mg "reversed" = none
  z_sorted : mg "sorted" = none
  z_sum : mg "sum" = none
  z_tuple : mg "tuple" = none
  z_zip : mg "zip" = none
  c_CamError : Addr
  gc_CamError : mg "CamError" = some (.ref c_CamError)
  c_InvalidFraction : Addr
  i_InvalidFraction : Addr
  x_InvalidFraction : PySem.OwnG.LTxt "InvalidFraction" "InvalidFraction.__init__" K mg c_InvalidFraction i_InvalidFraction
  e_InvalidFraction : ExcC K c_InvalidFraction
  c_InvalidTurn : Addr
  i_InvalidTurn : Addr
  x_InvalidTurn : PySem.OwnG.LTxt "InvalidTurn" "InvalidTurn.__init__" K mg c_InvalidTurn i_InvalidTurn
  e_InvalidTurn : ExcC K c_InvalidTurn
  c_InvalidWave : Addr
  i_InvalidWave : Addr
  x_InvalidWave : PySem.OwnG.LTxt "InvalidWave" "InvalidWave.__init__" K mg c_InvalidWave i_InvalidWave
  e_InvalidWave : ExcC K c_InvalidWave
  c_InvalidTurns : Addr
  i_InvalidTurns : Addr
  x_InvalidTurns : PySem.OwnI.LTxt "InvalidTurns" "InvalidTurns.__init__" K mg c_InvalidTurns i_InvalidTurns
  e_InvalidTurns : ExcC K c_InvalidTurns
  xm_InvalidFraction : PySem.W.exmOne K (.ref c_InvalidFraction) (.ref c_CamError) = some true
  kv_InvalidFraction : PySem.W.kitOne K (.ref c_InvalidFraction) (.type "ValueError") = some true
  k_InvalidFraction_InvalidFraction : PySem.W.kitOne K (.ref c_InvalidFraction) (.ref c_InvalidFraction) = some true
  k_InvalidFraction_InvalidTurn : PySem.W.kitOne K (.ref c_InvalidFraction) (.ref c_InvalidTurn) = some false
  k_InvalidFraction_InvalidWave : PySem.W.kitOne K (.ref c_InvalidFraction) (.ref c_InvalidWave) = some false
  k_InvalidFraction_InvalidTurns : PySem.W.kitOne K (.ref c_InvalidFraction) (.ref c_InvalidTurns) = some false
  xm_InvalidTurn : PySem.W.exmOne K (.ref c_InvalidTurn) (.ref c_CamError) = some true
  kv_InvalidTurn : PySem.W.kitOne K (.ref c_InvalidTurn) (.type "ValueError") = some true
  k_InvalidTurn_InvalidFraction : PySem.W.kitOne K (.ref c_InvalidTurn) (.ref c_InvalidFraction) = some false
  k_InvalidTurn_InvalidTurn : PySem.W.kitOne K (.ref c_InvalidTurn) (.ref c_InvalidTurn) = some true
  k_InvalidTurn_InvalidWave : PySem.W.kitOne K (.ref c_InvalidTurn) (.ref c_InvalidWave) = some false
  k_InvalidTurn_InvalidTurns : PySem.W.kitOne K (.ref c_InvalidTurn) (.ref c_InvalidTurns) = some false
  xm_InvalidWave : PySem.W.exmOne K (.ref c_InvalidWave) (.ref c_CamError) = some true
  kv_InvalidWave : PySem.W.kitOne K (.ref c_InvalidWave) (.type "ValueError") = some true
  k_InvalidWave_InvalidFraction : PySem.W.kitOne K (.ref c_InvalidWave) (.ref c_InvalidFraction) = some false
  k_InvalidWave_InvalidTurn : PySem.W.kitOne K (.ref c_InvalidWave) (.ref c_InvalidTurn) = some false
  k_InvalidWave_InvalidWave : PySem.W.kitOne K (.ref c_InvalidWave) (.ref c_InvalidWave) = some true
  k_InvalidWave_InvalidTurns : PySem.W.kitOne K (.ref c_InvalidWave) (.ref c_InvalidTurns) = some false
  xm_InvalidTurns : PySem.W.exmOne K (.ref c_InvalidTurns) (.ref c_CamError) = some true
  kv_InvalidTurns : PySem.W.kitOne K (.ref c_InvalidTurns) (.type "ValueError") = some true
  k_InvalidTurns_InvalidFraction : PySem.W.kitOne K (.ref c_InvalidTurns) (.ref c_InvalidFraction) = some false
  k_InvalidTurns_InvalidTurn : PySem.W.kitOne K (.ref c_InvalidTurns) (.ref c_InvalidTurn) = some false
  k_InvalidTurns_InvalidWave : PySem.W.kitOne K (.ref c_InvalidTurns) (.ref c_InvalidWave) = some false
  k_InvalidTurns_InvalidTurns : PySem.W.kitOne K (.ref c_InvalidTurns) (.ref c_InvalidTurns) = some true
  m_comb : mg "comb" = some (.builtin "math.comb")
  m_combinations : mg "combinations" = some (.type "itertools.combinations")
  m_gcd : mg "gcd" = some (.builtin "math.gcd")
  m_lcm : mg "lcm" = some (.builtin "math.lcm")
  a_NOUGHT : Addr
  g_NOUGHT : mg "NOUGHT" = some (.ref a_NOUGHT)
  d_NOUGHT : Vd.KD K (.ref a_NOUGHT) (.tuple [.int 0, .int 1])
  a_ONE : Addr
  g_ONE : mg "ONE" = some (.ref a_ONE)
  d_ONE : Vd.KD K (.ref a_ONE) (.tuple [.int 1, .int 1])
  g_PRIME : ∃ t, mg "PRIME" = some (.int 2305843009213693951 t)
  g_FIRST_MODULUS : ∃ t, mg "FIRST_MODULUS" = some (.int 37 t)
  a_EAST : Addr
  g_EAST : mg "EAST" = some (.ref a_EAST)
  d_EAST : Vd.KD K (.ref a_EAST) (.tuple [.tuple [.int 1, .int 1], .tuple [.int 0, .int 1]])
  a_WEST : Addr
  g_WEST : mg "WEST" = some (.ref a_WEST)
  d_WEST : Vd.KD K (.ref a_WEST) (.tuple [.tuple [.int (-1), .int 1], .tuple [.int 0, .int 1]])
  g_MOST_HARMONICS : ∃ t, mg "MOST_HARMONICS" = some (.int 8 t)
  a_BLANK : Addr
  g_BLANK : mg "BLANK" = some (.ref a_BLANK)
  d_BLANK : Vd.KD K (.ref a_BLANK) (.tuple [.tuple [.int 0, .int 1], .tuple [.int 0, .int 1]])
  g_MIDDLE : ∃ t, mg "MIDDLE" = some (.str (Str.ofString "middle") t)
  g_HARMONIC : ∃ t, mg "HARMONIC" = some (.str (Str.ofString "harmonic") t)
  g_TURN : ∃ t, mg "TURN" = some (.str (Str.ofString "turn") t)
  a_QUARTER_TURNS : Addr
  g_QUARTER_TURNS : mg "QUARTER_TURNS" = some (.ref a_QUARTER_TURNS)
  d_QUARTER_TURNS : Vd.KD K (.ref a_QUARTER_TURNS) (.tuple [.tuple [.tuple [.int 1, .int 1], .tuple [.int 0, .int 1]], .tuple [.tuple [.int 0, .int 1], .tuple [.int 1, .int 1]], .tuple [.tuple [.int (-1), .int 1], .tuple [.int 0, .int 1]], .tuple [.tuple [.int 0, .int 1], .tuple [.int (-1), .int 1]]])
end My
set_option Elab.async false
set_option linter.all false
set_option maxRecDepth 100000
set_option maxHeartbeats 4000000
namespace My
open PySem PySem.Spec PyProof.Rows L2 Vd Mt
section
variable {P : Program} {w : World} {K : PySem.W.Frag} {mg : Str → Option Value} {base : Heap} {c Ptb : Addr} [Sees P base]
theorem ok_is_whole (T : Tx K mg) : FnOk P w K mg base CX0 1 T.f_is_whole T.fd_is_whole ["value"] (spP K (fun i : Int => [.int i]) (fun _ => True) fun _ => Is (.bool true)) := by
  refine fnP T.F_is_whole sc_is_whole (fun _ => rfl) (fun cdv A outer s H E a hr _ => ⟨_, (pss_one (ps_ret (pe_and (pe_callB call_isi (by rfl) T.z_isinstance (by decide +kernel) (pa_cons (pv 0) (pa_cons (pe_bltn (v := V.ty "int") (u := Value.type "int") (by rfl) T.z_int (by decide +kernel) rfl) pa_nil))) (pe_one (pe_not (pe_callB call_isi (by rfl) T.z_isinstance (by decide +kernel) (pa_cons (pv 0) (pa_cons (pe_bltn (v := V.ty "bool") (u := Value.type "bool") (by rfl) T.z_bool (by decide +kernel) rfl) pa_nil)))))))), ?_⟩)
  exact run_retD (ev_andV (ev_isiI true ev_var) fun _ => ev_notV (ev_isiI false ev_var)) rfl
theorem ok_ratio_negative (T : Tx K mg) : FnOk P w K mg base CX0 1 T.f_ratio_negative T.fd_ratio_negative ["fraction"] (spP K (fun a : Rat => [rt a]) (fun _ => True) fun a => Is (rt (-a))) := by
  refine fnP T.F_ratio_negative sc_ratio_negative (fun _ => rfl) (fun cdv A outer s H E a hr hp => ⟨_, (pss_one (ps_ret (pe_tup (pa_cons (pe_un un_neg (pe_ix ix_tup (pv 0) pe_int (fun _ _ => rfl))) (pa_cons (pe_ix ix_tup (pv 0) pe_int (fun _ _ => rfl)) pa_nil))))), ?_⟩)
  exact run_retD (ev_tup (ea_cons (ev_neg (ev_ixT ev_var ev_int)) (ea_cons (ev_ixT ev_var ev_int) ea_nil))) rfl
theorem ok_join_powers (T : Tx K mg) : FnOk P w K mg base CX0 1 T.f_join_powers T.fd_join_powers ["turn", "other"] (spP K (fun a : Pt × Nat × Nat => [tnD (a.1.pow a.2.1), tnD (a.1.pow a.2.2)]) (fun a => a.1.Ok ∧ PtB bB (a.1.pow a.2.1) ∧ PtB bB (a.1.pow a.2.2)) fun a => Is (tnD (a.1.pow (a.2.1 + a.2.2)))) := by
  refine fnP T.F_join_powers sc_join_powers (fun _ => rfl) (fun cdv A outer s H E a hr hp => ⟨_, (pss_cons (ps_asg (pv 0) (pg_tup rfl (pgs_cons (pg_tup rfl (pgs_cons (pg_name (i := 2) sc_join_powers.nd rfl (.inl rfl)) (pgs_cons (pg_name (i := 3) sc_join_powers.nd rfl (.inl rfl)) pgs_nil))) (pgs_cons (pg_tup rfl (pgs_cons (pg_name (i := 4) sc_join_powers.nd rfl (.inl rfl)) (pgs_cons (pg_name (i := 5) sc_join_powers.nd rfl (.inl rfl)) pgs_nil))) pgs_nil))))
      (pss_cons (ps_asg (pv 1) (pg_tup rfl (pgs_cons (pg_tup rfl (pgs_cons (pg_name (i := 6) sc_join_powers.nd rfl (.inl rfl)) (pgs_cons (pg_name (i := 7) sc_join_powers.nd rfl (.inl rfl)) pgs_nil))) (pgs_cons (pg_tup rfl (pgs_cons (pg_name (i := 8) sc_join_powers.nd rfl (.inl rfl)) (pgs_cons (pg_name (i := 5) sc_join_powers.nd rfl (.inl rfl)) pgs_nil))) pgs_nil))))
      (pss_one (ps_ret (pe_tup (pa_cons (pe_tup (pa_cons (pe_op op_sub (pe_op op_mulX (pv 2) (pv 6)) (pe_op op_mulX (pv 4) (pv 8))) (pa_cons (pe_op op_mulX (pv 3) (pv 7)) pa_nil))) (pa_cons (pe_tup (pa_cons (pe_op op_add (pe_op op_mulX (pv 2) (pv 8)) (pe_op op_mulX (pv 4) (pv 6))) (pa_cons (pe_op op_mulX (pv 3) (pv 7)) pa_nil))) pa_nil))))))), ?_⟩)
  obtain ⟨p, i, j⟩ := a
  obtain ⟨ho, hp, hq⟩ := hp
  dsimp only at ho hp hq
  obtain ⟨b1, b2, b3, _⟩ := hp.bds
  obtain ⟨c1, c2, c3, _⟩ := hq.bds
  obtain ⟨e1, e2, e3⟩ := tn_powers ho i j
  refine run_asgD ev_var (tg_tup (tgs_cons (tg_tup (tgs_cons tg_name (tgs_cons tg_name tgs_nil))) (tgs_cons (tg_tup (tgs_cons tg_name (tgs_cons tg_name tgs_nil))) tgs_nil))) ?_
  refine run_asgD ev_var (tg_tup (tgs_cons (tg_tup (tgs_cons tg_name (tgs_cons tg_name tgs_nil))) (tgs_cons (tg_tup (tgs_cons tg_name (tgs_cons tg_name tgs_nil))) tgs_nil))) ?_
  refine run_retD (ev_tup (ea_cons (ev_tup (ea_cons (ev_I0 (ev_I ev_var ev_var (mul_bd b1 c1)) (ev_I ev_var ev_var (mul_bd b2 c2))) (ea_cons (ev_I ev_var ev_var (mul_bd b3 c3)) ea_nil)))
    (ea_cons (ev_tup (ea_cons (ev_I0 (ev_I ev_var ev_var (mul_bd b1 c2)) (ev_I ev_var ev_var (mul_bd b2 c1))) (ea_cons (ev_I ev_var ev_var (mul_bd b3 c3)) ea_nil))) ea_nil))) ?_
  show PyData.tuple [frp (_, _), frp (_, _)] = tnD (p.pow (i + j))
  unfold tnD
  rw [e1, e2, e3]
theorem ok_order_key (T : Tx K mg) : FnOk P w K mg base CX0 1 T.f_order_key T.fd_order_key ["turn", "shared"] (spP K (fun a : (Int × Int) × Int => [tH a.1, .int a.2]) (fun a => Hv a.1 ∧ bd 4000 a.2) fun a => Is (keyP (keyD a.2 (tH a.1)))) := by
  refine fnP T.F_order_key sc_order_key (fun _ => rfl) (fun cdv A outer s H E a hr hp => ⟨_, (pss_cons (ps_asg (pv 0) (pg_tup rfl (pgs_cons (pg_tup rfl (pgs_cons (pg_name (i := 2) sc_order_key.nd rfl (.inl rfl)) (pgs_cons (pg_name (i := 3) sc_order_key.nd rfl (.inl rfl)) pgs_nil))) (pgs_cons (pg_tup rfl (pgs_cons (pg_name (i := 4) sc_order_key.nd rfl (.inl rfl)) (pgs_cons (pg_name (i := 5) sc_order_key.nd rfl (.inl rfl)) pgs_nil))) pgs_nil))))
      (pss_cons (ps_set (i := 6) sc_order_key.nd rfl (.inl rfl) (pe_op op_mulX (pv 2) (pe_op op_fdivW (pv 1) (pv 3))))
      (pss_one (ps_ret (pe_ifExp (pt_cmpR op_ge (pv 4) pe_int (nomark _)) (pe_tup (pa_cons pe_int (pa_cons (pe_un un_neg (pv 6)) pa_nil))) (pe_tup (pa_cons pe_int (pa_cons (pv 6) pa_nil)))))))), ?_⟩)
  obtain ⟨h, S⟩ := a
  obtain ⟨hv, hS⟩ := hp
  dsimp only at hv hS
  obtain ⟨ba, bb, bm⟩ := hv.tnb
  have m0 := tn_pos (mkPt_ok hv.ne)
  have ds : bd 4000 (S / (tn (hpt h)).m) := bd_le (by
    have := Int.natAbs_ediv_le_natAbs S (tn (hpt h)).m
    exact this) hS
  refine run_asgD ev_var (tg_tup (tgs_cons (tg_tup (tgs_cons tg_name (tgs_cons tg_name tgs_nil))) (tgs_cons (tg_tup (tgs_cons tg_name (tgs_cons tg_name tgs_nil))) tgs_nil))) ?_
  refine run_setD (ev_I ev_var (ev_I ev_var ev_var (fdiv_ok (n := 42) m0 bm)) (mul_bd (bd_mono (m := 4000) ba (by decide)) ds)) ?_
  have ek : keyP (keyD S (tH h)) = if (tn (hpt h)).b ≥ 0 then .tuple [.int 0, .int (-((tn (hpt h)).a * (S / (tn (hpt h)).m)))] else .tuple [.int 1, .int ((tn (hpt h)).a * (S / (tn (hpt h)).m))] := by
    rw [show keyD S (tH h) = _ from key_tn S (hpt h)]
    split <;> rfl
  by_cases c : (tn (hpt h)).b ≥ 0
  · rw [if_pos c] at ek
    exact run_retD (ev_ifD (et_test (ev_B0 ev_var ev_int)) (fun _ => ev_tup (ea_cons ev_int (ea_cons (ev_neg ev_var) ea_nil))) fun z => absurd c (of_decide_eq_false z)) ek.symm
  · rw [if_neg c] at ek
    exact run_retD (ev_ifD (et_test (ev_B0 ev_var ev_int)) (fun z => absurd (of_decide_eq_true z) c) fun _ => ev_tup (ea_cons ev_int (ea_cons ev_var ea_nil))) ek.symm
theorem ok_made_wave (T : Tx K mg) : FnOk P w K mg base CX0 1 T.f_made_wave T.fd_made_wave ["first", "pairs"] (spG K (fun a : Rat × List Pr => [.d (rt a.1), .l (a.2.map pD)]) (fun a => a.2.length ≤ 1000) fun a => rD (Is (wD a.1 (trimR a.2)))) := by
  refine fnX T.F_made_wave sc_made_wave (fun _ => rfl) (fun cdv A outer s H E a wl hr hp => ⟨_, (pss_cons (ps_set (i := 2) sc_made_wave.nd rfl (.inl rfl) (pe_callB call_len_seq (by rfl) T.z_len PySem.boot_len (pa_cons (pv 1) pa_nil)))
      (pss_cons (ps_while PassesOwn.never (PW.pt (pw_and (pt_cmpR op_gt (pv 2) pe_int (nomark _)) (pw_and1 (pt_cmpR (op_eqD hr.units) (pe_ix ix_list (pv 1) (pe_op op_sub (pv 2) pe_int) (fun _ _ => rfl)) (pe_glob (v := V.ref T.a_BLANK) (by rfl) T.g_BLANK rfl) (nomark _)))))
        (pss_one (ps_aug (i := 2) sc_made_wave.nd rfl (.inl rfl) pe_int ip_sub)))
      (pss_one (ps_ret (pe_tup (pa_cons (pv 0) (pa_cons (pe_callTy call_tuple_of (by rfl) T.z_tuple (by decide +kernel) (pa_cons (pe_slice sl_list (pv 1) po_none (po_some (pv 2))) pa_nil)) pa_nil))))))), ?_⟩)
  obtain ⟨k, L⟩ := a
  refine run_setD (ev_lenL (.inr rfl)) ?_
  refine run_seq (N1 := fun ρ' => ρ' = [some (.d (rt k)), some (.ro (L.map pD)), some (.d (.int ((trimTo L L.length : Nat) : Int)))]) (run_while (fun m ρ' => m ≤ L.length ∧ trimTo L m = trimTo L L.length ∧ ρ' = [some (.d (rt k)), some (.ro (L.map pD)), some (.d (.int (m : Int)))]) L.length ⟨Nat.le_refl _, rfl, by rw [List.length_map]; rfl⟩ fun m ρ' ⟨hk, ht, e⟩ => ?_) fun ρ' e => ?_
  · subst e
    cases m with
    | zero =>
      refine ⟨Is false, et_and (a := false) (b := false) (et_test (ev_is (ev_B0 ev_var ev_int) rfl)) (fun z => nomatch z), fun z => ?_, fun _ => ?_⟩
      · exact nomatch (show true = false from z)
      · rw [← ht]
        rfl
    | succ j =>
      have e1 : decide ((0 : Int) < ((j + 1 : Nat) : Int)) = true := decide_eq_true (by omega)
      have e2 : ((j + 1 : Nat) : Int) - 1 = (j : Int) := by omega
      refine ⟨Is (true && decide (L.getD j (0, 0) = (0, 0))), et_and (a := true) (et_test (ev_is (ev_B0 ev_var ev_int) (congrArg PyData.bool e1))) (fun _ => et_test (ev_is (ev_eqD (ev_ixL (.inr rfl) (ev_is (ev_I0 ev_var ev_int) (congrArg PyData.int e2)) (pr_at (L := L) (by omega))) (ev_k T.d_BLANK) rfl rfl) (congrArg PyData.bool eqv_pD1))), fun z => ?_, fun z => ?_⟩
      · have z' : L.getD j (0, 0) = (0, 0) := by
          have q : (true && decide (L.getD j (0, 0) = (0, 0))) = true := z.symm
          rw [Bool.true_and] at q
          exact of_decide_eq_true q
        refine run_aug (n := ((j + 1 : Nat) : Int)) (m := 1) rfl ev_int ⟨j, by omega, by omega, ?_, ?_⟩
        · rw [← ht]
          show trimTo L j = (if L.getD j (0, 0) = (0, 0) then trimTo L j else j + 1)
          rw [if_pos z']
        · rw [e2]
          rfl
      · have z' : ¬ L.getD j (0, 0) = (0, 0) := by
          have q : (true && decide (L.getD j (0, 0) = (0, 0))) = false := z.symm
          rw [Bool.true_and] at q
          exact of_decide_eq_false q
        rw [← ht]
        show [_, _, some (Sl.d (.int ((j + 1 : Nat) : Int)))] = [_, _, some (Sl.d (.int (((if L.getD j (0, 0) = (0, 0) then trimTo L j else j + 1 : Nat)) : Int)))]
        rw [if_neg z']
  · subst e
    refine run_retD (ev_tup (ea_cons ev_var (ea_cons (ev_tupOf (el_cutTo (.inr rfl) ev_var)) ea_nil))) ?_
    show PyData.tuple [rt k, .tuple (Vd.cutD (L.map pD) none (some ((trimTo L L.length : Nat) : Int)))] = _
    rw [trim_map]
theorem ok_pair_at (T : Tx K mg) : FnOk P w K mg base CX0 1 T.f_pair_at T.fd_pair_at ["wave", "number"] (spP K (fun a : (Rat × List Pr) × Nat => [wD a.1.1 a.1.2, .int (1 + (a.2 : Int))]) (fun _ => True) fun a => Is (pD (a.1.2.getD a.2 (0, 0)))) := by
  refine fnP T.F_pair_at sc_pair_at (fun _ => rfl) (fun cdv A outer s H E a hr hp => ⟨_, (pss_cons (ps_set (i := 2) sc_pair_at.nd rfl (.inl rfl) (pe_ix ix_tup (pv 0) pe_int (fun _ _ => rfl)))
      (pss_one (ps_ret (pe_ifExp (pt_cmpR op_le (pv 1) (pe_callB call_len_seq (by rfl) T.z_len PySem.boot_len (pa_cons (pv 2) pa_nil)) (nomark _)) (pe_ix ix_tup (pv 2) (pe_op op_sub (pv 1) pe_int) (fun _ _ => rfl)) (pe_glob (v := V.ref T.a_BLANK) (by rfl) T.g_BLANK rfl))))), ?_⟩)
  obtain ⟨⟨k, L⟩, n⟩ := a
  refine run_setD (ev_ixT ev_var ev_int) ?_
  refine run_ret (S := Is (pD (L.getD n (0, 0)))) (ev_ifD (et_test (ev_B0 ev_var (ev_lenT ev_var))) (fun z => ?_) fun z => ?_) fun d e => e
  · have hn : n < L.length := by have := of_decide_eq_true z; rw [List.length_map] at this; dsimp only at this; omega
    exact ev_ixT ev_var (ev_is (ev_I0 ev_var ev_int) (congrArg PyData.int (show 1 + (n : Int) - 1 = (n : Int) by omega))) (pr_at hn)
  · have hn : L.length ≤ n := by have := of_decide_eq_false z; rw [List.length_map] at this; dsimp only at this; omega
    refine EvD.mono (ev_k T.d_BLANK) fun d e => ?_
    rw [List.getD_eq_getElem?_getD, List.getElem?_eq_none hn]
    exact e
theorem ok_common_size (T : Tx K mg) : FnOk P w K mg base CX0 1 T.f_common_size T.fd_common_size ["waves"] (spG K (fun a : (Rat × List Pr) × Nat => [.l [wD a.1.1 a.1.2]]) (fun a => DvM a.2 a.1.1 a.1.2) fun a => rD (IntP (CsOk a.2 a.1.1 a.1.2))) := by
  refine fnX T.F_common_size sc_common_size (fun _ => rfl) (fun cdv A outer s H E a wl hr hp => ⟨_, (pss_cons (ps_set (i := 1) sc_common_size.nd rfl (.inl rfl) pe_int)
      (pss_cons (ps_for PassesOwn.never rfl (pi_list (pv 0)) (pg_tup rfl (pgs_cons (pg_name (i := 2) sc_common_size.nd rfl (.inl rfl)) (pgs_cons (pg_name (i := 3) sc_common_size.nd rfl (.inl rfl)) pgs_nil)))
        (pss_cons (ps_set (i := 1) sc_common_size.nd rfl (.inl rfl) (pe_callBfun cr_lcmX (by rfl) T.m_lcm (pa_cons (pv 1) (pa_cons (pe_ix ix_tup (pv 2) pe_int (fun _ _ => rfl)) pa_nil))))
        (pss_one (ps_for PassesOwn.never rfl (pi_tup (pv 3)) (pg_tup rfl (pgs_cons (pg_name (i := 4) sc_common_size.nd rfl (.inl rfl)) (pgs_cons (pg_name (i := 5) sc_common_size.nd rfl (.inl rfl)) pgs_nil)))
          (pss_one (ps_set (i := 1) sc_common_size.nd rfl (.inl rfl) (pe_callBfun cr_lcmX (by rfl) T.m_lcm (pa_cons (pe_callBfun cr_lcmX (by rfl) T.m_lcm (pa_cons (pv 1) (pa_cons (pe_ix ix_tup (pv 4) pe_int (fun _ _ => rfl)) pa_nil))) (pa_cons (pe_ix ix_tup (pv 5) pe_int (fun _ _ => rfl)) pa_nil)))))))))
      (pss_one (ps_ret (pv 1))))), ?_⟩)
  obtain ⟨⟨k, L⟩, M⟩ := a
  dsimp only at hp
  refine run_setD ev_int ?_
  refine run_seq (N1 := fun ρ' => ∃ (c : Int) (o2 o3 o4 o5 : Option Sl), CsOk M k L c ∧ ρ' = [some (.ro [wD k L]), some (.d (.int c)), o2, o3, o4, o5])
    (run_forL (ds := [wD k L]) rfl (fun i ρ' => ∃ (c : Int) (o2 o3 o4 o5 : Option Sl), (i = 0 → c = 1) ∧ (i = 1 → CsOk M k L c) ∧ ρ' = [some (.ro [wD k L]), some (.d (.int c)), o2, o3, o4, o5]) ⟨1, none, none, none, none, fun _ => rfl, fun h => absurd h (by decide), rfl⟩ (fun i d ρ' hd hI => ?_) fun ρ' hI => ?_) fun ρ' hI => ?_
  · obtain ⟨c, o2, o3, o4, o5, h1, _, rfl⟩ := hI
    cases i with
    | succ i => exact absurd hd (by simp)
    | zero =>
      cases hd
      cases h1 rfl
      have s0 := lcmS (c := 1) (d := k.den) (by decide) (Nat.one_dvd M) hp.k hp.pos
      refine ⟨_, tg_tup (tgs_cons tg_name (tgs_cons tg_name tgs_nil)), ?_⟩
      refine run_setD (ev_lcmX (i := 1) (j := (k.den : Int)) ev_var (ev_ixT ev_var ev_int) (by decide) (by rw [Int.natAbs_natCast]; exact Nat.lt_of_le_of_lt (Nat.le_of_dvd hp.pos hp.k) hp.lt)) ?_
      rw [show ((1 : Int).natAbs.lcm (k.den : Int).natAbs) = Nat.lcm (1 : Int).natAbs k.den by rw [Int.natAbs_natCast]]
      refine run_forT (ds := L.map pD) ev_var (fun i ρ' => ∃ (c : Int) (o4 o5 : Option Sl), (0 < c ∧ c.natAbs ∣ M ∧ (k.den : Int) ∣ c ∧ ∀ z ∈ L.take i, (z.1.den : Int) ∣ c ∧ (z.2.den : Int) ∣ c) ∧ ρ' = [some (.ro [wD k L]), some (.d (.int c)), some (.d (rt k)), some (.d (.tuple (L.map pD))), o4, o5]) ⟨_, o4, o5, ⟨s0.1, s0.2.1, s0.2.2.2, fun z hz => (nomatch hz)⟩, rfl⟩ (fun j d ρ' hd hI => ?_) fun ρ' hI => ?_
      · obtain ⟨c, o4, o5, ⟨c0, c1, c2, c3⟩, rfl⟩ := hI
        obtain ⟨z, ez, rfl⟩ := map_at hd
        have mz := hp.l z (List.mem_of_getElem? ez)
        have t1 := lcmS c0 c1 mz.1 hp.pos
        have t2 := lcmS t1.1 t1.2.1 mz.2 hp.pos
        refine ⟨_, tg_tup (tgs_cons tg_name (tgs_cons tg_name tgs_nil)), ?_⟩
        refine run_set (ev_lcmX (j := (z.2.den : Int)) (ev_lcmX (j := (z.1.den : Int)) ev_var (ev_ixT ev_var ev_int) (le_dv hp.pos hp.lt c1) (by rw [Int.natAbs_natCast]; exact Nat.lt_of_le_of_lt (Nat.le_of_dvd hp.pos mz.1) hp.lt)) (ev_ixT ev_var ev_int) (by rw [show (z.1.den : Int).natAbs = z.1.den from Int.natAbs_natCast _]; exact le_dv hp.pos hp.lt t1.2.1) (by rw [Int.natAbs_natCast]; exact Nat.lt_of_le_of_lt (Nat.le_of_dvd hp.pos mz.2) hp.lt)) fun d e => ?_
        cases (show d = _ from e)
        rw [show (z.1.den : Int).natAbs = z.1.den from Int.natAbs_natCast _, show (z.2.den : Int).natAbs = z.2.den from Int.natAbs_natCast _]
        refine ⟨_, some (.d (rt z.1)), some (.d (rt z.2)), ⟨t2.1, t2.2.1, Int.dvd_trans c2 (Int.dvd_trans t1.2.2.1 t2.2.2.1), fun y hy => ?_⟩, rfl⟩
        rw [List.take_add_one, ez] at hy
        rcases List.mem_append.mp hy with hy | hy
        · exact ⟨Int.dvd_trans (c3 y hy).1 (Int.dvd_trans t1.2.2.1 t2.2.2.1), Int.dvd_trans (c3 y hy).2 (Int.dvd_trans t1.2.2.1 t2.2.2.1)⟩
        · rw [show y = z by simpa using hy]
          exact ⟨Int.dvd_trans t1.2.2.2 t2.2.2.1, t2.2.2.2⟩
      · obtain ⟨c, o4, o5, ⟨c0, c1, c2, c3⟩, rfl⟩ := hI
        rw [List.length_map, List.take_length] at c3
        exact ⟨c, some (.d (rt k)), some (.d (.tuple (L.map pD))), o4, o5, fun h => absurd h (by decide), fun _ => ⟨c0, c1, c2, c3⟩, rfl⟩
  · obtain ⟨c, o2, o3, o4, o5, _, h2, rfl⟩ := hI
    exact ⟨c, o2, o3, o4, o5, h2 rfl, rfl⟩
  obtain ⟨c, o2, o3, o4, o5, hc, rfl⟩ := hI
  exact run_ret ev_var fun d e => ⟨c, e, hc⟩
theorem ok_half_row (T : Tx K mg) : FnOk P w K mg base CX0 1 T.f_half_row T.fd_half_row ["whole", "quarter"] (spG K (fun a : (Int × List (Int × Int)) × Nat => [.d (.tuple [.int a.1.1, lz (a.1.2.map iiD)]), .d (.int (a.2 : Int))]) (fun a => a.1.2.length ≤ 16 ∧ a.2 < 4) fun a => rL (Is ((hrowTo a.1.1 a.1.2 a.2 a.1.2.length).map PyData.int))) := by
  refine fnX T.F_half_row sc_half_row (fun _ => rfl) (fun cdv A outer s H E a wl hr hp => ⟨_, (pss_cons (ps_par (i := 2) (j := 3) (by rfl) sc_half_row.nd rfl rfl (by decide) rfl rfl (pa_cons (pe_lst (pa_cons (pe_ix ix_tup (pv 0) pe_int (fun _ _ => rfl)) pa_nil)) (pa_cons (pe_ix ix_tup (pv 0) pe_int (fun _ _ => rfl)) pa_nil)) (by rfl))
      (pss_cons (ps_for PassesOwn.never rfl (pi_enS (by rfl) T.z_enumerate (pa_cons (pv 3) pa_nil) (pk_cons pe_int pk_nil)) (pg_tup rfl (pgs_cons (pg_name (i := 4) sc_half_row.nd rfl (.inr rfl)) (pgs_cons (pg_tup rfl (pgs_cons (pg_name (i := 5) sc_half_row.nd rfl (.inl rfl)) (pgs_cons (pg_name (i := 6) sc_half_row.nd rfl (.inl rfl)) pgs_nil))) pgs_nil)))
        (pss_cons (ps_set (i := 7) sc_half_row.nd rfl (.inr rfl) (pe_tup (pa_cons (pv 5) (pa_cons (pv 6) (pa_cons (pe_un un_neg (pv 5)) (pa_cons (pe_un un_neg (pv 6)) pa_nil))))))
        (pss_cons (ps_setLc (i := 8) (own := [("one", 9), ("other", 10)]) (g := gTup K 2 (gCons (gName 9) (gCons (gName 10) gNil))) (by rfl) sc_half_row.nd rfl rfl (by rfl) (pi_m (by rfl) T.z_zip (pa_cons (pe_op op_cat (pv 2) (pe_lst (pa_cons pe_int (pa_cons pe_int pa_nil)))) (pa_cons (pe_op op_cat (pe_lst (pa_cons pe_int (pa_cons pe_int pa_nil))) (pv 2)) pa_nil))) (blkOk_by (own := [("one", 9), ("other", 10)]) (N := N_half_row) (sc := defScope s_half_row) (by decide +kernel)) (fun _ _ _ _ _ => (pg_tup rfl (pgs_cons (pg_name (i := 9) sc_half_row.nd rfl (Or.inl rfl)) (pgs_cons (pg_name (i := 10) sc_half_row.nd rfl (Or.inl rfl)) pgs_nil)))) (fun _ _ _ _ _ => pts_nil) (fun _ _ _ _ _ => (pe_op op_add (pv 9) (pv 10))))
        (pss_one (ps_setLc (i := 2) (own := [("k", 11), ("number", 12)]) (g := gTup K 2 (gCons (gName 11) (gCons (gName 12) gNil))) (by rfl) sc_half_row.nd rfl rfl (by rfl) (pi_en0 (by rfl) T.z_enumerate (pa_cons (pv 8) pa_nil)) (blkOk_by (own := [("k", 11), ("number", 12)]) (N := N_half_row) (sc := defScope s_half_row) (by decide +kernel)) (fun _ _ _ _ _ => (pg_tup rfl (pgs_cons (pg_name (i := 11) sc_half_row.nd rfl (Or.inl rfl)) (pgs_cons (pg_name (i := 12) sc_half_row.nd rfl (Or.inl rfl)) pgs_nil)))) (fun _ _ _ _ _ => pts_nil) (fun _ _ _ _ _ => (pe_op op_add (pv 12) (pe_op op_mul (pe_callBfun cr_comb (by rfl) T.m_comb (pa_cons (pe_op op_mul pe_int (pv 4)) (pa_cons (pv 11) pa_nil))) (pe_ix (ix_tupK (K := K) rfl) (pv 7) (pe_op op_and4 (pe_op op_add (pv 11) (pe_op op_mul (pv 4) (pv 1))) pe_int) (fun _ _ => rfl))))))))))
      (pss_one (ps_ret (pv 2))))), ?_⟩)
  obtain ⟨⟨k0, ps⟩, c⟩ := a
  obtain ⟨h16, hc⟩ := hp
  dsimp only at h16 hc
  refine run_parLD (el_lstD (ds := [.int k0]) (ea_cons (ev_ixT ev_var ev_int) ea_nil)) (ev_ixT (d := lz (ps.map iiD)) ev_var ev_int) fun ds d e1 e2 => ?_
  cases (show ds = _ from e1)
  cases (show d = _ from e2)
  refine run_seq (N1 := fun ρ' => ∃ o4 o5 o6 o7 o8 : Option Sl, ρ' = [some (.d (.tuple [.int k0, lz (ps.map iiD)])), some (.d (.int (c : Int))), some (.own ((hrowTo k0 ps c ps.length).map PyData.int)), some (.d (lz (ps.map iiD))), o4, o5, o6, o7, o8, none, none, none, none])
    (run_forZS (ds := ps.map iiD) (k := 1) ev_var ev_int (by decide) (fun i ρ' => ∃ o4 o5 o6 o7 o8 : Option Sl, ρ' = [some (.d (.tuple [.int k0, lz (ps.map iiD)])), some (.d (.int (c : Int))), some (.own ((hrowTo k0 ps c i).map PyData.int)), some (.d (lz (ps.map iiD))), o4, o5, o6, o7, o8, none, none, none, none]) ⟨none, none, none, none, none, rfl⟩ (fun i d ρ' hd hI => ?_) fun ρ' hI => ?_) fun ρ' hI => ?_
  · obtain ⟨o4, o5, o6, o7, o8, rfl⟩ := hI
    obtain ⟨⟨p, q⟩, ep, rfl⟩ := map_at hd
    have hi : i < ps.length := (List.getElem?_eq_some_iff.mp ep).1
    have eg : ps.getD i (0, 0) = (p, q) := by rw [List.getD_eq_getElem?_getD, ep]; rfl
    have len := hrow_len k0 ps c i
    have st : hrowTo k0 ps c (i + 1) = hstep (hrowTo k0 ps c i) (i + 1) p q c := by rw [hrowTo, eg]
    generalize hrowTo k0 ps c i = row at len st ⊢
    have rl : (row.map PyData.int).length = 2 * i + 1 := by rw [List.length_map, len]
    refine ⟨_, tg_tup (tgs_cons tg_name (tgs_cons (tg_tup (tgs_cons tg_name (tgs_cons tg_name tgs_nil))) tgs_nil)), ?_⟩
    refine run_setD (ev_tup (ea_cons ev_var (ea_cons ev_var (ea_cons (ev_neg ev_var) (ea_cons (ev_neg ev_var) ea_nil))))) ?_
    have gr : ∀ (X : List Int) (k : Nat), k < X.length → (X.map PyData.int)[k]? = some (.int (X.getD k 0)) := fun X k hk => by
      rw [List.getElem?_map, List.getD_eq_getElem?_getD, List.getElem?_eq_getElem hk]; rfl
    have m1 : row.map PyData.int ++ [PyData.int 0, .int 0] = (row ++ [0, 0]).map PyData.int := by rw [List.map_append]; rfl
    have m2 : [PyData.int 0, .int 0] ++ row.map PyData.int = ([0, 0] ++ row).map PyData.int := by rw [List.map_append]; rfl
    refine run_setLD (ds := (List.range (row.length + 2)).map fun k => PyData.int ((row ++ [0, 0]).getD k 0 + ([0, 0] ++ row).getD k 0)) (EvL.mono (el_mapZLL (ds := (row ++ [0, 0]).map PyData.int) (es := ([0, 0] ++ row).map PyData.int) (fun k => PyData.int ((row ++ [0, 0]).getD k 0 + ([0, 0] ++ row).getD k 0)) (m1 ▸ el_catOwn (.inl rfl) (el_lstD (ea_cons ev_int (ea_cons ev_int ea_nil))) (by rw [rl]; show _ + 2 ≤ _; omega) rfl) (m2 ▸ el_catNV (el_lstD (ea_cons ev_int (ea_cons ev_int ea_nil))) rfl (by rw [rl]; show 2 + _ ≤ _; omega)) (by simp only [List.length_map, List.length_append]; omega) (by simp only [List.length_map, List.length_append, len, List.length_cons, List.length_nil]; omega) fun k d e hd he => ?_) fun ds e => ?_) ?_
    · have hk : k < (row ++ [0, 0]).length := by have := (List.getElem?_eq_some_iff.mp hd).1; rwa [List.length_map] at this
      have hk2 : k < ([0, 0] ++ row).length := by have := (List.getElem?_eq_some_iff.mp he).1; rwa [List.length_map] at this
      rw [gr _ k hk] at hd
      rw [gr _ k hk2] at he
      cases hd
      cases he
      exact ⟨_, tc_pair, ev_I0 ev_var ev_var⟩
    · rw [show ds = _ from e, List.length_map, List.length_append]
      rfl
    refine run_set1L (Ss := Is ((hrowTo k0 ps c (i + 1)).map PyData.int)) (EvL.mono (el_compE0L (ds := (List.range (row.length + 2)).map fun k => PyData.int ((row ++ [0, 0]).getD k 0 + ([0, 0] ++ row).getD k 0)) (fun _ => true) (fun k => .int (hnum row (i + 1) p q c k)) (.inl rfl) (by rw [List.length_map, List.length_range]; omega) fun k d hd => ?_) fun ds e => ?_) fun ds e => ?_
    · have hk : k < row.length + 2 := by have := (List.getElem?_eq_some_iff.mp hd).1; rwa [List.length_map, List.length_range] at this
      rw [List.getElem?_map, List.getElem?_range hk] at hd
      cases hd
      have cb := comb_ok (i + 1) (by omega) k (by omega)
      have cj : (1 + (i : Int)) = ((i + 1 : Nat) : Int) := by omega
      refine ⟨_, tc_pair, et_yes, fun _ => ev_is (ev_I0 ev_var (ev_I (i := PySem.W.mcComb (2 * ((i + 1 : Nat) : Int)) (k : Int)) (j := sgC p q (k + (i + 1) * c)) (ev_comb (ev_is (ev_I (i := 2) (j := 1 + (i : Int)) ev_int ev_var (.inl ⟨by omega, by omega⟩)) (congrArg (fun z => PyData.int (2 * z)) cj)) ev_var ⟨by omega, by omega⟩ ⟨by omega, by omega⟩) (ev_ixT (ds := [.int p, .int q, .int (-p), .int (-q)]) ev_var (ev_is (ev_I (j := 3) (ev_I0 (j := (1 + (i : Int)) * (c : Int)) ev_var (ev_I ev_var ev_var (.inl ⟨by omega, by omega⟩))) ev_int rfl) (congrArg PyData.int (show ((k : Int) + (1 + (i : Int)) * (c : Int)) % 4 = ((k + (i + 1) * c : Nat) : Int) % 4 by rw [cj]; simp))) (sg_at p q _)) (.inl ⟨by omega, by omega⟩))) rfl⟩
    · rw [show ds = _ from e, filter_tt, List.length_map, List.length_range, st]
      unfold hstep
      rw [List.map_map]
      rfl
    · cases (show ds = _ from e)
      exact ⟨_, _, _, _, _, rfl⟩
  · obtain ⟨o4, o5, o6, o7, o8, e⟩ := hI
    rw [List.length_map] at e
    exact ⟨_, _, _, _, _, e⟩
  obtain ⟨o4, o5, o6, o7, o8, rfl⟩ := hI
  exact run_retOwn rfl rfl
end
end My
set_option Elab.async false
set_option linter.all false
set_option maxRecDepth 100000
set_option maxHeartbeats 4000000
namespace My
open PySem PySem.Spec PyProof.Rows L2 Vd Mt
section
variable {P : Program} {w : World} {K : PySem.W.Frag} {mg : Str → Option Value} {base : Heap} {c Ptb : Addr} [Sees P base]
theorem ok_is_fraction (T : Tx K mg) : FnOk P w K mg base CX0 2 T.f_is_fraction T.fd_is_fraction ["value"] (spP K (fun a : Int × Int => [fr a.1 a.2]) (fun _ => True) fun a => Is (.bool (isF a.1 a.2))) := by
  have G_is_whole := ok_is_whole (P := P) (w := w) (base := base) T
  refine fnP T.F_is_fraction sc_is_fraction (fun _ => rfl) (fun cdv A outer s H E a hr _ => ⟨_, (pss_cons (ps_if (PW.pt (pw_or (pt_not (pt_val (pe_callB call_isi (by rfl) T.z_isinstance (by decide +kernel) (pa_cons (pv 0) (pa_cons (pe_bltn (v := V.ty "tuple") (u := Value.type "tuple") (by rfl) T.z_tuple (by decide +kernel) rfl) pa_nil))))) (pw_or1 (pt_cmpR (op_neD hr.units) (pe_callB call_len_seq (by rfl) T.z_len PySem.boot_len (pa_cons (pv 0) pa_nil)) pe_int (nomark _)))))
        (pss_one (ps_ret pe_bl))
        pss_nil)
      (pss_cons (ps_asg (pv 0) (pg_tup rfl (pgs_cons (pg_name (i := 1) sc_is_fraction.nd rfl (.inl rfl)) (pgs_cons (pg_name (i := 2) sc_is_fraction.nd rfl (.inl rfl)) pgs_nil))))
      (pss_one (ps_ret (pe_and (pe_call G_is_whole (hr.mono (by omega)) (by rfl) T.m_is_whole T.F_is_whole.kp T.b_is_whole .nil pass0 (pa_cons (pv 1) pa_nil)) (pe_and (pe_call G_is_whole (hr.mono (by omega)) (by rfl) T.m_is_whole T.F_is_whole.kp T.b_is_whole .nil pass0 (pa_cons (pv 2) pa_nil)) (pe_and (pe_cmpR op_gt (pv 2) pe_int (nomark _)) (pe_one (pe_cmpR (op_eqD hr.units) (pe_callBfun cr_gcd (by rfl) T.m_gcd (pa_cons (pv 1) (pa_cons (pv 2) pa_nil))) pe_int (nomark _)))))))))), ?_⟩)
  obtain ⟨n, m⟩ := a
  refine run_ifsD (et_or (a := false) (et_not (et_B (ev_isiT true ev_var))) fun _ => et_test (ev_neD (ev_lenT ev_var) ev_int rfl rfl)) (fun z => nomatch (show false = true from z)) fun _ => ?_
  refine run_skip (run_asgD ev_var (tg_tup (tgs_cons tg_name (tgs_cons tg_name tgs_nil))) ?_)
  refine run_retD (ev_andV (a := true) (ev_callD n (ea_cons ev_var ea_nil) trivial) fun _ => ev_andV (a := true) (ev_callD m (ea_cons ev_var ea_nil) trivial) fun _ => ev_andV (ev_B0 ev_var ev_int) fun _ => ev_eqD (ev_gcd ev_var ev_var) ev_int rfl rfl) ?_
  show PyData.bool _ = PyData.bool _
  congr 1
theorem ok_is_fraction_pair (T : Tx K mg) : FnOk P w K mg base CX0 3 T.f_is_fraction_pair T.fd_is_fraction_pair ["value"] (spP K (fun a : Int × Int × Int × Int => [.tuple [fr a.1 a.2.1, fr a.2.2.1 a.2.2.2]]) (fun _ => True) fun a => Is (.bool (isF a.1 a.2.1 && isF a.2.2.1 a.2.2.2))) := by
  have G_is_fraction := ok_is_fraction (P := P) (w := w) (base := base) T
  refine fnP T.F_is_fraction_pair sc_is_fraction_pair (fun _ => rfl) (fun cdv A outer s H E a hr _ => ⟨_, (pss_cons (ps_if (PW.pt (pw_or (pt_not (pt_val (pe_callB call_isi (by rfl) T.z_isinstance (by decide +kernel) (pa_cons (pv 0) (pa_cons (pe_bltn (v := V.ty "tuple") (u := Value.type "tuple") (by rfl) T.z_tuple (by decide +kernel) rfl) pa_nil))))) (pw_or1 (pt_cmpR (op_neD hr.units) (pe_callB call_len_seq (by rfl) T.z_len PySem.boot_len (pa_cons (pv 0) pa_nil)) pe_int (nomark _)))))
        (pss_one (ps_ret pe_bl))
        pss_nil)
      (pss_one (ps_ret (pe_and (pe_call G_is_fraction (hr.mono (by omega)) (by rfl) T.m_is_fraction T.F_is_fraction.kp T.b_is_fraction .nil pass0 (pa_cons (pe_ix ix_tup (pv 0) pe_int (fun _ _ => rfl)) pa_nil)) (pe_one (pe_call G_is_fraction (hr.mono (by omega)) (by rfl) T.m_is_fraction T.F_is_fraction.kp T.b_is_fraction .nil pass0 (pa_cons (pe_ix ix_tup (pv 0) pe_int (fun _ _ => rfl)) pa_nil))))))), ?_⟩)
  obtain ⟨n, m, n', m'⟩ := a
  refine run_ifsD (et_or (a := false) (et_not (et_B (ev_isiT true ev_var))) fun _ => et_test (ev_neD (ev_lenT ev_var) ev_int rfl rfl)) (fun z => nomatch (show false = true from z)) fun _ => ?_
  exact run_skip (run_retD (ev_andV (ev_callD (n, m) (ea_cons (ev_ixT ev_var ev_int) ea_nil) trivial) fun _ => ev_callD (n', m') (ea_cons (ev_ixT ev_var ev_int) ea_nil) trivial) rfl)
theorem ok_single_factors (T : Tx K mg) : FnOk P w K mg base CX0 4 T.f_single_factors T.fd_single_factors ["row"] spNo := Vd.FnOk.no
theorem ok_is_turn (T : Tx K mg) : FnOk P w K mg base CX0 4 T.f_is_turn T.fd_is_turn ["value"] (spP K (fun a : Pt => [tnD a]) (PtB 4000) fun a => Is (.bool true)) := by
  have G_is_fraction_pair := ok_is_fraction_pair (P := P) (w := w) (base := base) T
  refine fnP T.F_is_turn sc_is_turn (fun _ => rfl) (fun cdv A outer s H E a hr hp => ⟨_, (pss_cons (ps_if (pt_not (pt_val (pe_call G_is_fraction_pair (hr.mono (by omega)) (by rfl) T.m_is_fraction_pair T.F_is_fraction_pair.kp T.b_is_fraction_pair .nil pass0 (pa_cons (pv 0) pa_nil))))
        (pss_one (ps_ret pe_bl))
        pss_nil)
      (pss_cons (ps_asg (pv 0) (pg_tup rfl (pgs_cons (pg_tup rfl (pgs_cons (pg_name (i := 1) sc_is_turn.nd rfl (.inl rfl)) (pgs_cons (pg_name (i := 2) sc_is_turn.nd rfl (.inl rfl)) pgs_nil))) (pgs_cons (pg_tup rfl (pgs_cons (pg_name (i := 3) sc_is_turn.nd rfl (.inl rfl)) (pgs_cons (pg_name (i := 4) sc_is_turn.nd rfl (.inl rfl)) pgs_nil))) pgs_nil))))
      (pss_one (ps_ret (pe_and (pe_cmpR (op_eqD hr.units) (pv 2) (pv 4) (nomark _)) (pe_one (pe_cmpR (op_eqD hr.units) (pe_op op_add (pe_op op_mulX (pv 1) (pv 1)) (pe_op op_mulX (pv 3) (pv 3))) (pe_op op_mulX (pv 2) (pv 2)) (nomark _)))))))), ?_⟩)
  obtain ⟨b1, b2, b3, _⟩ := hp.bds
  have e1 : isF (tn a).a (tn a).m = true := isF_red hp.1.pos
  have e2 : isF (tn a).b (tn a).m = true := by have z := isF_red (n := a.y) hp.1.pos; rw [tn_y hp.1] at z; exact z
  have e3 : (isF (tn a).a (tn a).m && isF (tn a).b (tn a).m) = true := by rw [e1, e2]; rfl
  refine run_ifsD (et_not (et_B (ev_callD ((tn a).a, (tn a).m, (tn a).b, (tn a).m) (ea_cons ev_var ea_nil) trivial))) (fun z => ?_) fun _ => ?_
  · rw [show (!(isF (tn a).a (tn a).m && isF (tn a).b (tn a).m)) = false by rw [e3]; rfl] at z
    exact nomatch z
  refine run_skip (run_asgD ev_var (tg_tup (tgs_cons (tg_tup (tgs_cons tg_name (tgs_cons tg_name tgs_nil))) (tgs_cons (tg_tup (tgs_cons tg_name (tgs_cons tg_name tgs_nil))) tgs_nil))) ?_)
  refine run_retD (ev_andV (ev_eqD ev_var ev_var rfl rfl) fun _ => ev_eqD (ev_I0 (ev_I ev_var ev_var (mul_bd b1 b1)) (ev_I ev_var ev_var (mul_bd b2 b2))) (ev_I ev_var ev_var (mul_bd b3 b3)) rfl rfl) ?_
  show PyData.bool (((tn a).m == (tn a).m) && ((tn a).a * (tn a).a + (tn a).b * (tn a).b == (tn a).m * (tn a).m)) = .bool true
  rw [tn_sq hp.1, beq_self_eq_true, beq_self_eq_true]
  rfl
theorem ok_is_wave (T : Tx K mg) : FnOk P w K mg base CX0 4 T.f_is_wave T.fd_is_wave ["value"] (spP K (fun a : Rat × List (Rat × Rat) => [wD a.1 a.2]) (fun a => Wv a.2) fun a => Is (.bool true)) := by
  have G_is_fraction := ok_is_fraction (P := P) (w := w) (base := base) T
  have G_is_fraction_pair := ok_is_fraction_pair (P := P) (w := w) (base := base) T
  refine fnP T.F_is_wave sc_is_wave (fun _ => rfl) (fun cdv A outer s H E a hr hp => ⟨_, (pss_cons (ps_if (PW.pt (pw_or (pt_not (pt_val (pe_callB call_isi (by rfl) T.z_isinstance (by decide +kernel) (pa_cons (pv 0) (pa_cons (pe_bltn (v := V.ty "tuple") (u := Value.type "tuple") (by rfl) T.z_tuple (by decide +kernel) rfl) pa_nil))))) (pw_or1 (pt_cmpR (op_neD hr.units) (pe_callB call_len_seq (by rfl) T.z_len PySem.boot_len (pa_cons (pv 0) pa_nil)) pe_int (nomark _)))))
        (pss_one (ps_ret pe_bl))
        pss_nil)
      (pss_cons (ps_asg (pv 0) (pg_tup rfl (pgs_cons (pg_name (i := 1) sc_is_wave.nd rfl (.inl rfl)) (pgs_cons (pg_name (i := 2) sc_is_wave.nd rfl (.inl rfl)) pgs_nil))))
      (pss_cons (ps_if (PW.pt (pw_or (pt_not (pt_val (pe_call G_is_fraction (hr.mono (by omega)) (by rfl) T.m_is_fraction T.F_is_fraction.kp T.b_is_fraction .nil pass0 (pa_cons (pv 1) pa_nil)))) (pw_or (pt_not (pt_val (pe_callB call_isi (by rfl) T.z_isinstance (by decide +kernel) (pa_cons (pv 2) (pa_cons (pe_bltn (v := V.ty "tuple") (u := Value.type "tuple") (by rfl) T.z_tuple (by decide +kernel) rfl) pa_nil))))) (pw_or1 (pt_cmpR op_gt (pe_callB call_len_seq (by rfl) T.z_len PySem.boot_len (pa_cons (pv 2) pa_nil)) (pe_glob (v := V.int 8) (by rfl) T.g_MOST_HARMONICS.choose_spec ⟨_, rfl⟩) (nomark _))))))
        (pss_one (ps_ret pe_bl))
        pss_nil)
      (pss_cons (ps_if (pt_not (pt_val (pe_callB (cr_all rfl) (by rfl) T.z_all (by decide +kernel) (pa_cons (pe_lc (own := [("pair", 3)]) (g := gName 3) (by rfl) sc_is_wave.nd (pi_tup (pv 2)) (blkOk_by (own := [("pair", 3)]) (N := N_is_wave) (sc := defScope s_is_wave) (by decide +kernel)) (fun _ _ _ _ _ => (pg_name (i := 3) sc_is_wave.nd rfl (Or.inl rfl))) (fun _ _ _ _ _ => pts_nil) (fun _ _ _ _ _ => (pe_call G_is_fraction_pair (hr.mono (by omega)) (by rfl) T.m_is_fraction_pair T.F_is_fraction_pair.kp T.b_is_fraction_pair .nil pass0 (pa_cons (pv 3) pa_nil)))) pa_nil))))
        (pss_one (ps_ret pe_bl))
        pss_nil)
      (pss_one (ps_ret (pe_or (pe_cmpR (op_eqD hr.units) (pe_callB call_len_seq (by rfl) T.z_len PySem.boot_len (pa_cons (pv 2) pa_nil)) pe_int (nomark _)) (pe_one (pe_cmpR (op_neD hr.units) (pe_ix ix_tup (pv 2) (pe_un un_neg pe_int) (fun _ _ => rfl)) (pe_glob (v := V.ref T.a_BLANK) (by rfl) T.g_BLANK rfl) (nomark _)))))))))), ?_⟩)
  obtain ⟨k, L⟩ := a
  obtain ⟨h8, hl⟩ := hp
  dsimp only at h8 hl
  refine run_ifsD (et_or (a := false) (et_not (et_B (ev_isiT true ev_var))) fun _ => et_test (ev_neD (ev_lenT ev_var) ev_int rfl rfl)) (fun z => nomatch (show false = true from z)) fun _ => ?_
  refine run_skip (run_asgD ev_var (tg_tup (tgs_cons tg_name (tgs_cons tg_name tgs_nil))) ?_)
  have hz : decide ((8 : Int) < (((L.map pD).length : Nat) : Int)) = false := decide_eq_false (by rw [List.length_map]; omega)
  refine run_ifsD (b := false) (et_or (a := false) (et_not (et_B (ev_is (ev_callD (k.num, (k.den : Int)) (ea_cons ev_var ea_nil) trivial) (congrArg PyData.bool (isF_rt k))))) fun _ => et_or (a := false) (et_not (et_B (ev_isiT true ev_var))) fun _ => et_test (ev_is (ev_B0 (ev_lenT ev_var) (ev_k kd_int)) (congrArg PyData.bool hz))) (fun z => nomatch z) fun _ => run_skip ?_
  refine run_ifsD (b := false) (et_not (et_B (ev_is (ev_all (bs := L.map fun _ => true) (map_true L ▸ el_map (fun _ _ => .bool true) ev_var (by rw [List.length_map]; omega) (fun i d hd => ?_))) (congrArg PyData.bool (all_true L))))) (fun z => nomatch z) fun _ => run_skip ?_
  · rw [List.getElem?_map] at hd
    cases e : L[i]? with
    | none => rw [e] at hd; cases hd
    | some pq =>
      rw [e] at hd
      cases hd
      exact ⟨_, tc_name, ev_is (ev_callD (pq.1.num, (pq.1.den : Int), pq.2.num, (pq.2.den : Int)) (ea_cons ev_var ea_nil) trivial) (congrArg PyData.bool (by show (isF _ _ && isF _ _) = true; rw [isF_rt, isF_rt]; rfl))⟩
  rcases List.eq_nil_or_concat L with rfl | ⟨I, l, rfl⟩
  · exact run_retD (ev_is (ev_orV (a := true) (b := true) (ev_is (ev_eqD (ev_lenT ev_var) ev_int rfl rfl) rfl) fun z => nomatch z) rfl) rfl
  · rw [List.concat_eq_append] at *
    have e0 : (((((I ++ [l]).map pD).length : Nat) : Int) == 0) = false := by
      rw [beq_eq_false_iff_ne, List.length_map, List.length_append, List.length_singleton]
      omega
    refine run_retD (ev_is (ev_orV (a := false) (b := true) (ev_is (ev_eqD (ev_lenT ev_var) ev_int rfl rfl) (congrArg PyData.bool e0)) fun _ => ev_is (ev_neD (ev_ixT (d := pD l) ev_var (ev_neg ev_int) (by rw [List.map_append]; exact atI_last)) (ev_k T.d_BLANK) rfl rfl) (congrArg PyData.bool (by rw [eqv_pD (hl I l rfl)]; rfl))) rfl) rfl
theorem ok_check_turn (T : Tx K mg) : FnOk P w K mg base CX0 5 T.f_check_turn T.fd_check_turn ["turn"] (spP K (fun a : Pt => [tnD a]) (PtB 4000) fun a => Is .none) := by
  have G_is_turn := ok_is_turn (P := P) (w := w) (base := base) T
  refine fnP T.F_check_turn sc_check_turn (fun _ => rfl) (fun cdv A outer s H E a hr hp => ⟨_, (pss_one (ps_if (pt_not (pt_val (pe_call G_is_turn (hr.mono (by omega)) (by rfl) T.m_is_turn T.F_is_turn.kp T.b_is_turn .nil pass0 (pa_cons (pv 0) pa_nil))))
        (pss_one ps_never)
        pss_nil)), ?_⟩)
  exact run_ifD (et_not (et_B (ev_callD a (ea_cons ev_var ea_nil) hp))) (fun z => nomatch (show false = true from z)) fun _ => run_next rfl
theorem ok_check_turns (T : Tx K mg) : FnOk P w K mg base CX0 5 T.f_check_turns T.fd_check_turns ["turns"] (spP K (fun a : List (Int × Int) => [.tuple (a.map tH)]) Hvs fun _ => Is .none) := by
  have G_is_turn := ok_is_turn (P := P) (w := w) (base := base) T
  refine fnP T.F_check_turns sc_check_turns (fun _ => rfl) (fun cdv A outer s H E a hr hp => ⟨_, (pss_cons (ps_if (pt_not (pt_val (pe_callB call_isi (by rfl) T.z_isinstance (by decide +kernel) (pa_cons (pv 0) (pa_cons (pe_bltn (v := V.ty "tuple") (u := Value.type "tuple") (by rfl) T.z_tuple (by decide +kernel) rfl) pa_nil)))))
        (pss_one ps_never)
        pss_nil)
      (pss_one (ps_for PassesOwn.never rfl (pi_en0 (by rfl) T.z_enumerate (pa_cons (pv 0) pa_nil)) (pg_tup rfl (pgs_cons (pg_name (i := 1) sc_check_turns.nd rfl (.inl rfl)) (pgs_cons (pg_name (i := 2) sc_check_turns.nd rfl (.inl rfl)) pgs_nil)))
        (pss_one (ps_if (pt_not (pt_val (pe_call G_is_turn (hr.mono (by omega)) (by rfl) T.m_is_turn T.F_is_turn.kp T.b_is_turn .nil pass0 (pa_cons (pv 2) pa_nil))))
          (pss_one ps_never)
          pss_nil))))), ?_⟩)
  refine run_ifsD (b := false) (et_not (a := true) (et_B (ev_isiT true ev_var))) (fun z => nomatch z) fun _ => run_skip ?_
  refine run_forE (ds := a.map tH) ev_var (fun i ρ' => ∃ o1 o2 : Option Sl, ρ' = [some (.d (.tuple (a.map tH))), o1, o2]) ⟨none, none, rfl⟩ (fun j d ρ' hd hI => ?_) fun ρ' hI => rfl
  obtain ⟨o1, o2, rfl⟩ := hI
  obtain ⟨h, eh, rfl⟩ := map_at hd
  have hv := hp.all h (List.mem_of_getElem? eh)
  exact ⟨_, tg_tup (tgs_cons tg_name (tgs_cons tg_name tgs_nil)), run_ifD (b := false) (et_not (a := true) (et_B (ev_callD (hpt h) (ea_cons ev_var ea_nil) (hv.ptb.up (by decide))))) (fun z => nomatch z) fun _ => run_next ⟨_, _, rfl⟩⟩
theorem ok_check_wave (T : Tx K mg) : FnOk P w K mg base CX0 5 T.f_check_wave T.fd_check_wave ["wave"] (spP K (fun a : Rat × List (Rat × Rat) => [wD a.1 a.2]) (fun a => Wv a.2) fun a => Is .none) := by
  have G_is_wave := ok_is_wave (P := P) (w := w) (base := base) T
  refine fnP T.F_check_wave sc_check_wave (fun _ => rfl) (fun cdv A outer s H E a hr hp => ⟨_, (pss_one (ps_if (pt_not (pt_val (pe_call G_is_wave (hr.mono (by omega)) (by rfl) T.m_is_wave T.F_is_wave.kp T.b_is_wave .nil pass0 (pa_cons (pv 0) pa_nil))))
        (pss_one ps_never)
        pss_nil)), ?_⟩)
  exact run_ifD (et_not (et_B (ev_callD a (ea_cons ev_var ea_nil) hp))) (fun z => nomatch (show false = true from z)) fun _ => run_next rfl
theorem ok_back (T : Tx K mg) : FnOk P w K mg base CX0 6 T.f_back T.fd_back ["turn"] (spP K (fun a : Pt => [tnD a]) (PtB 4000) fun a => Is (tnD a.conj)) := by
  have G_check_turn := ok_check_turn (P := P) (w := w) (base := base) T
  have G_ratio_negative := ok_ratio_negative (P := P) (w := w) (base := base) T
  refine fnP T.F_back sc_back (fun _ => rfl) (fun cdv A outer s H E a hr hp => ⟨_, (pss_cons (ps_expr (pe_call G_check_turn (hr.mono (by omega)) (by rfl) T.m_check_turn T.F_check_turn.kp T.b_check_turn .nil pass0 (pa_cons (pv 0) pa_nil)))
      (pss_one (ps_ret (pe_tup (pa_cons (pe_ix ix_tup (pv 0) pe_int (fun _ _ => rfl)) (pa_cons (pe_call G_ratio_negative (hr.mono (by omega)) (by rfl) T.m_ratio_negative T.F_ratio_negative.kp T.b_ratio_negative .nil pass0 (pa_cons (pe_ix ix_tup (pv 0) pe_int (fun _ _ => rfl)) pa_nil)) pa_nil)))))), ?_⟩)
  have e := tn_sn hp.1
  have hb : fr (tn a).b (tn a).m = rt (sn a) := by
    show fr _ _ = fr _ _
    rw [(Prod.mk.inj e).1, (Prod.mk.inj e).2]
  refine run_dropD (ev_callD a (ea_cons ev_var ea_nil) hp) (run_retD (ev_tup (ea_cons (ev_ixT ev_var ev_int) (ea_cons (ev_callD (sn a) (ea_cons (ev_is (ev_ixT ev_var ev_int) hb) ea_nil) trivial) ea_nil))) ?_)
  show PyData.tuple [fr (tn a).a (tn a).m, fr (-(sn a).num) ((sn a).den : Int)] = _
  rw [← (Prod.mk.inj e).1, ← (Prod.mk.inj e).2]
  unfold tnD
  rw [tn_conj hp.1]
theorem ok_in_order (T : Tx K mg) (TB : LamX.TabB base mg c Ptb) (hcd : T.fd_in_order.code = .ref c) (hP : tabOf K = some Ptb) : FnOk P w K mg base CX0 6 T.f_in_order T.fd_in_order ["turns"] (spP K (fun a : List (Int × Int) => [.tuple (a.map tH)]) Hvs fun a d => ∀ gs : List (Int × Int), gs.Perm a → (gs.Pairwise fun x y => hle x y = true) → d = .tuple (gs.map tH)) := by
  have G_check_turns := ok_check_turns (P := P) (w := w) (base := base) T
  have G_order_key := ok_order_key (P := P) (w := w) (base := base) T
  refine fnPT T.F_in_order hcd sc_in_order (fun _ => rfl) (fun cdv A outer s H E a hcv hr hp => ?_)
  have hcv : (cxOf CX0 P w K mg base N_in_order "in_order" (defScope s_in_order) T.f_in_order cdv A outer s H E).nox.env.code = .ref c := hcv
  refine ⟨_, (pss_cons (ps_expr (pe_call G_check_turns (hr.mono (by omega)) (by rfl) T.m_check_turns T.F_check_turns.kp T.b_check_turns .nil pass0 (pa_cons (pv 0) pa_nil)))
      (pss_cons (ps_set (i := 1) sc_in_order.nd rfl (.inr rfl) pe_int)
      (pss_cons (ps_for PassesOwn.never rfl (pi_tup (pv 0)) (pg_name (i := 2) sc_in_order.nd rfl (.inl rfl))
        (pss_one (ps_set (i := 1) sc_in_order.nd rfl (.inr rfl) (pe_callBfun cr_lcmX (by rfl) T.m_lcm (pa_cons (pv 1) (pa_cons (pe_ix ix_tup (pe_ix ix_tup (pv 2) pe_int (fun _ _ => rfl)) pe_int (fun _ _ => rfl)) pa_nil))))))
      (pss_one (ps_ret (pe_callTy call_tuple_of (by rfl) T.z_tuple (by decide +kernel) (pa_cons (pe_sortlam (k := 1) (N := ["told", "shared"]) (a := "told") (b := "shared") (j := 1) (by rfl) T.z_sorted (by decide +kernel) (pa_cons (pv 0) pa_nil) TB hcv rfl rfl hr (NdefX.nscope_by (by decide +kernel)) rfl (NdefX.ndef_free (sc := defScope s_in_order) (fr := ["shared"]) (by decide +kernel)) (by decide +kernel) rfl (fun _ _ _ _ _ _ => rfl) (fun f1 c1 A1 out1 s1 H1 hr1 => pe_call G_order_key (hr1.mono (by omega)) (by rfl) T.m_order_key T.F_order_key.kp T.b_order_key .nil pass0 (pa_cons (pv 0) (pa_cons (pv 1) pa_nil)))) pa_nil))))))), ?_⟩
  refine run_seq (N1 := fun ρ' => ρ' = [some (.d (.tuple (a.map tH))), none, none]) (run_drop (ev_callD a (ea_cons ev_var ea_nil) hp) rfl) fun ρ' e => ?_
  subst e
  refine run_setD ev_int ?_
  refine run_seq (N1 := fun ρ' => ∃ (S : Int) (o : Option Sl), 0 < S ∧ bd 4000 S ∧ (∀ h ∈ a, (tn (hpt h)).m ∣ S) ∧ ρ' = [some (.d (.tuple (a.map tH))), some (.d (.int S)), o])
    (run_forT (ds := a.map tH) ev_var (fun i ρ' => ∃ (S : Int) (o : Option Sl), 0 < S ∧ bd (42 * i + 1) S ∧ (∀ h ∈ a.take i, (tn (hpt h)).m ∣ S) ∧ ρ' = [some (.d (.tuple (a.map tH))), some (.d (.int S)), o]) ⟨1, none, by decide, by unfold bd; decide, fun h hh => (nomatch hh), rfl⟩ (fun i d ρ' hd hI => ?_) fun ρ' hI => ?_) fun ρ' hI => ?_
  · obtain ⟨S, o, S0, bS, dv, rfl⟩ := hI
    obtain ⟨h, eh, rfl⟩ := map_at hd
    have hi : i < a.length := (List.getElem?_eq_some_iff.mp eh).1
    have len := hp.len
    have hv := hp.all h (List.mem_of_getElem? eh)
    have m0 : 0 < (tn (hpt h)).m := tn_pos (mkPt_ok hv.ne)
    have bm := hv.tnb.2.2
    have le : Nat.lcm S.natAbs (tn (hpt h)).m.natAbs ≤ S.natAbs * (tn (hpt h)).m.natAbs := Nat.div_le_self ..
    refine ⟨_, tg_name, run_set (ev_lcmX ev_var (ev_ixT (ev_ixT ev_var ev_int) ev_int) (bd_mono (n := 42 * i + 1) (m := 6000) bS (by omega)) (bd_mono (m := 6000) bm (by decide))) fun d e => ?_⟩
    cases (show d = _ from e)
    refine ⟨((Nat.lcm S.natAbs (tn (hpt h)).m.natAbs : Nat) : Int), _, ?_, ?_, fun g hg => ?_, rfl⟩
    · have := Nat.lcm_pos (m := S.natAbs) (n := (tn (hpt h)).m.natAbs) (by omega) (by omega)
      omega
    · have z := bd_mul bS bm
      refine bd_mono (n := 42 * i + 1 + 42) (bd_le ?_ z) (by omega)
      rw [Int.natAbs_mul, Int.natAbs_natCast]
      exact le
    · rw [List.take_add_one, eh] at hg
      rcases List.mem_append.mp hg with hg | hg
      · exact Int.dvd_trans (dv g hg) (Int.natAbs_dvd_natAbs.mp (by rw [Int.natAbs_natCast]; exact Nat.dvd_lcm_left _ _))
      · rw [show g = h by simpa using hg]
        exact Int.natAbs_dvd_natAbs.mp (by rw [Int.natAbs_natCast]; exact Nat.dvd_lcm_right _ _)
  · obtain ⟨S, o, S0, bS, dv, rfl⟩ := hI
    have len := hp.len
    refine ⟨S, o, S0, bd_mono bS (by rw [List.length_map]; omega), fun h hh => dv h ?_, rfl⟩
    rw [List.length_map, List.take_length]
    exact hh
  · obtain ⟨S, o, S0, bS, dv, rfl⟩ := hI
    refine run_retD (ev_sortLamQ hP (keyD S) ev_var rfl (by rw [List.length_map]; have := hp.len; omega) fun d hd => ?_) fun gs p srt => congrArg PyData.tuple (in_order_eq S0 hp.all dv p srt)
    obtain ⟨h, hh, rfl⟩ := List.mem_map.mp hd
    exact ev_callD (h, S) (ea_cons ev_var (ea_cons ev_var ea_nil)) ⟨hp.all h hh, bS⟩
theorem ok_mirrored (T : Tx K mg) : FnOk P w K mg base CX0 6 T.f_mirrored T.fd_mirrored ["wave"] (spP K (fun a : Rat × List Pr => [wD a.1 a.2]) (fun a => Wv a.2) fun a => Is (wD a.1 (mir a.2))) := by
  have G_check_wave := ok_check_wave (P := P) (w := w) (base := base) T
  have G_made_wave := ok_made_wave (P := P) (w := w) (base := base) T
  have G_ratio_negative := ok_ratio_negative (P := P) (w := w) (base := base) T
  refine fnP T.F_mirrored sc_mirrored (fun _ => rfl) (fun cdv A outer s H E a hr hp => ⟨_, (pss_cons (ps_expr (pe_call G_check_wave (hr.mono (by omega)) (by rfl) T.m_check_wave T.F_check_wave.kp T.b_check_wave .nil pass0 (pa_cons (pv 0) pa_nil)))
      (pss_cons (ps_asg (pv 0) (pg_tup rfl (pgs_cons (pg_name (i := 1) sc_mirrored.nd rfl (.inl rfl)) (pgs_cons (pg_name (i := 2) sc_mirrored.nd rfl (.inl rfl)) pgs_nil))))
      (pss_one (ps_ret (pe_call G_made_wave (hr.mono (by omega)) (by rfl) T.m_made_wave T.F_made_wave.kp T.b_made_wave .nil pass0 (pa_cons (pv 1) (pa_cons (pe_lc (own := [("p", 3), ("q", 4)]) (g := gTup K 2 (gCons (gName 3) (gCons (gName 4) gNil))) (by rfl) sc_mirrored.nd (pi_tup (pv 2)) (blkOk_by (own := [("p", 3), ("q", 4)]) (N := N_mirrored) (sc := defScope s_mirrored) (by decide +kernel)) (fun _ _ _ _ _ => (pg_tup rfl (pgs_cons (pg_name (i := 3) sc_mirrored.nd rfl (Or.inl rfl)) (pgs_cons (pg_name (i := 4) sc_mirrored.nd rfl (Or.inl rfl)) pgs_nil)))) (fun _ _ _ _ _ => pts_nil) (fun _ _ _ _ _ => (pe_tup (pa_cons (pv 3) (pa_cons (pe_call G_ratio_negative (hr.mono (by omega)) (by rfl) T.m_ratio_negative T.F_ratio_negative.kp T.b_ratio_negative .nil pass0 (pa_cons (pv 4) pa_nil)) pa_nil))))) pa_nil))))))), ?_⟩)
  obtain ⟨k, L⟩ := a
  have h8 : L.length ≤ 8 := hp.1
  have he : Ends L := hp.2
  refine run_dropD (ev_callD (k, L) (ea_cons ev_var ea_nil) hp) ?_
  refine run_asgD ev_var (tg_tup (tgs_cons tg_name (tgs_cons tg_name tgs_nil))) ?_
  refine run_retD (ev_callXD (k, mir L) (er_d ev_var (er_l (mir_map L ▸ el_map (fun i _ => pD ((L.getD i (0, 0)).1, -(L.getD i (0, 0)).2)) ev_var (by rw [List.length_map]; omega) fun i d hd => ?_) er_nil)) (by dsimp only; unfold mir; rw [List.length_map]; omega)) ?_
  · rw [List.getElem?_map] at hd
    cases ej : L[i]? with
    | none => rw [ej] at hd; cases hd
    | some pq =>
      rw [ej] at hd
      cases hd
      have eg : L.getD i (0, 0) = pq := by rw [List.getD_eq_getElem?_getD, ej]; rfl
      rw [eg]
      exact ⟨_, tc_pair, ev_tup (ea_cons ev_var (ea_cons (ev_callD pq.2 (ea_cons ev_var ea_nil) trivial) ea_nil))⟩
  · show wD k (trimR (mir L)) = _
    rw [trimR_self (mir_ends he)]
theorem ok_harmonics_of (T : Tx K mg) : FnOk P w K mg base CX0 6 T.f_harmonics_of T.fd_harmonics_of ["wave"] (spP K (fun a : Rat × List Pr => [wD a.1 a.2]) (fun a => Wv a.2) fun a => Is (.tuple ((harm a.2).map fun i : Nat => .int (1 + (i : Int))))) := by
  have G_check_wave := ok_check_wave (P := P) (w := w) (base := base) T
  refine fnP T.F_harmonics_of sc_harmonics_of (fun _ => rfl) (fun cdv A outer s H E a hr hp => ⟨_, (pss_cons (ps_expr (pe_call G_check_wave (hr.mono (by omega)) (by rfl) T.m_check_wave T.F_check_wave.kp T.b_check_wave .nil pass0 (pa_cons (pv 0) pa_nil)))
      (pss_one (ps_ret (pe_callTy call_tuple_of (by rfl) T.z_tuple (by decide +kernel) (pa_cons (pe_lc (own := [("j", 1), ("pair", 2)]) (g := gTup K 2 (gCons (gName 1) (gCons (gName 2) gNil))) (by rfl) sc_harmonics_of.nd (pi_enS (by rfl) T.z_enumerate (pa_cons (pe_ix ix_tup (pv 0) pe_int (fun _ _ => rfl)) pa_nil) (pk_cons pe_int pk_nil)) (blkOk_by (own := [("j", 1), ("pair", 2)]) (N := N_harmonics_of) (sc := defScope s_harmonics_of) (by decide +kernel)) (fun _ _ _ _ _ => (pg_tup rfl (pgs_cons (pg_name (i := 1) sc_harmonics_of.nd rfl (Or.inl rfl)) (pgs_cons (pg_name (i := 2) sc_harmonics_of.nd rfl (Or.inl rfl)) pgs_nil)))) (fun _ _ _ _ _ => pts_one (pt_cmpR (op_neDK (K := K) rfl hr.units) (pv 2) (pe_glob (v := V.ref T.a_BLANK) (by rfl) T.g_BLANK rfl) (nomark _))) (fun _ _ _ _ _ => (pv 1))) pa_nil))))), ?_⟩)
  obtain ⟨k, L⟩ := a
  have h8 : L.length ≤ 8 := hp.1
  refine run_dropD (ev_callD (k, L) (ea_cons ev_var ea_nil) hp) ?_
  refine run_retD (ev_tupOf (EvL.mono (el_compE (fun i => decide (L.getD i (0, 0) ≠ (0, 0))) (fun i => .int (1 + (i : Int))) (ev_ixT ev_var ev_int) ev_int (by decide) (by rw [List.length_map]; exact Nat.le_trans h8 (by decide)) fun i d hd => ?_) fun ds e => by rw [show ds = _ from e, List.length_map]; rfl)) rfl
  rw [List.getElem?_map] at hd
  cases ej : L[i]? with
  | none => rw [ej] at hd; cases hd
  | some pq =>
    rw [ej] at hd
    cases hd
    have eg : L.getD i (0, 0) = pq := by rw [List.getD_eq_getElem?_getD, ej]; rfl
    rw [eg]
    refine ⟨_, tc_pair, et_test (ev_is (ev_neD ev_var (ev_k T.d_BLANK) rfl rfl) (congrArg PyData.bool ?_)), fun _ => ev_var⟩
    show (!PyData.eqv (pD pq) (.tuple [fr 0 1, fr 0 1])) = _
    rw [eqv_pD1, decide_not]
end
end My
set_option Elab.async false
set_option linter.all false
set_option maxRecDepth 100000
set_option maxHeartbeats 4000000
namespace My
open PySem PySem.Spec PyProof.Rows L2 Vd Mt
section
variable {P : Program} {w : World} {K : PySem.W.Frag} {mg : Str → Option Value} {base : Heap} {c Ptb : Addr} [Sees P base]
theorem ok_fold (T : Tx K mg) : FnOk P w K mg base CX0 7 T.f_fold T.fd_fold ["wave"] (spP K (fun a : Rat × List Pr => [wD a.1 a.2]) (fun a => Wv a.2) fun a => Is (.int (gH a.2 : Int))) := by
  have G_harmonics_of := ok_harmonics_of (P := P) (w := w) (base := base) T
  refine fnP T.F_fold sc_fold (fun _ => rfl) (fun cdv A outer s H E a hr hp => ⟨_, (pss_cons (ps_set (i := 1) sc_fold.nd rfl (.inl rfl) pe_int)
      (pss_cons (ps_for PassesOwn.never rfl (pi_tup (pe_call G_harmonics_of (hr.mono (by omega)) (by rfl) T.m_harmonics_of T.F_harmonics_of.kp T.b_harmonics_of .nil pass0 (pa_cons (pv 0) pa_nil))) (pg_name (i := 2) sc_fold.nd rfl (.inl rfl))
        (pss_one (ps_set (i := 1) sc_fold.nd rfl (.inl rfl) (pe_callBfun cr_gcd (by rfl) T.m_gcd (pa_cons (pv 1) (pa_cons (pv 2) pa_nil))))))
      (pss_one (ps_ret (pv 1))))), ?_⟩)
  obtain ⟨k, L⟩ := a
  refine run_setD ev_int ?_
  refine run_seq (N1 := fun ρ' => ∃ o2 : Option Sl, ρ' = [some (.d (wD k L)), some (.d (.int (gH L : Int))), o2])
    (run_forT (ds := (harm L).map fun i : Nat => PyData.int (1 + (i : Int))) (ev_callD (k, L) (ea_cons ev_var ea_nil) hp) (fun i ρ' => ∃ o2 : Option Sl, ρ' = [some (.d (wD k L)), some (.d (.int ((((harm L).map fun i => 1 + i).take i).foldl Nat.gcd 0 : Nat))), o2]) ⟨none, rfl⟩ (fun i d ρ' hd hI => ?_) fun ρ' hI => ?_) fun ρ' hI => ?_
  · obtain ⟨o2, rfl⟩ := hI
    obtain ⟨h, eh, rfl⟩ := map_at hd
    refine ⟨_, tg_name, run_set (ev_gcd ev_var ev_var) fun d e => ?_⟩
    cases (show d = _ from e)
    refine ⟨some (.d (.int (1 + (h : Int)))), ?_⟩
    rw [List.take_add_one, List.getElem?_map, eh, List.foldl_append]
    show _ = [_, some (Sl.d (.int ((Nat.gcd _ (1 + h) : Nat) : Int))), _]
    rw [show (1 + (h : Int)) = ((1 + h : Nat) : Int) by omega]
    simp only [Int.natAbs_natCast]
    rfl
  · obtain ⟨o2, e⟩ := hI
    rw [List.length_map, ← List.length_map (f := fun i => 1 + i), List.take_length] at e
    exact ⟨o2, e⟩
  obtain ⟨o2, rfl⟩ := hI
  exact run_retD ev_var rfl
theorem ok_ratio (T : Tx K mg) : FnOk P w K mg base CX0 33 T.f_ratio T.fd_ratio ["n", "m"] (spP K (fun a : Int × Int => [.int a.1, .int a.2]) (fun a => 0 < a.2) fun a => Is (frp (red a.1 a.2))) := by
  refine fnP T.F_ratio sc_ratio (fun _ => rfl) (fun cdv A outer s H E a hr hp => ⟨_, (pss_cons (ps_set (i := 2) sc_ratio.nd rfl (.inl rfl) (pe_callBfun cr_gcd (by rfl) T.m_gcd (pa_cons (pv 0) (pa_cons (pv 1) pa_nil))))
      (pss_one (ps_ret (pe_tup (pa_cons (pe_op (op_fdivS (P := P) (base := base) hr) (pv 0) (pv 2)) (pa_cons (pe_op (op_fdivS (P := P) (base := base) hr) (pv 1) (pv 2)) pa_nil)))))), ?_⟩)
  obtain ⟨n, m⟩ := a
  dsimp only at hp
  have gp := gc_pos (n := n) hp
  refine run_setD (ev_gcd ev_var ev_var) ?_
  exact run_retD (ev_tup (ea_cons (ev_I ev_var ev_var gp) (ea_cons (ev_I ev_var ev_var gp) ea_nil))) rfl
theorem ok_whole_wave (T : Tx K mg) : FnOk P w K mg base CX0 33 T.f_whole_wave T.fd_whole_wave ["wave", "size"] (spP K (fun a : (Rat × List Pr) × Int => [wD a.1.1 a.1.2, .int a.2]) (fun a => a.1.2.length ≤ 100 ∧ (Rb 50000000 a.1.1 ∧ ∀ z ∈ a.1.2, Rb 50000000 z.1 ∧ Rb 50000000 z.2) ∧ 0 < a.2 ∧ bd 6000 a.2) fun a => Is (wholeD a.2 a.1.1 a.1.2)) := by
  refine fnP T.F_whole_wave sc_whole_wave (fun _ => rfl) (fun cdv A outer s H E a hr hp => ⟨_, (pss_cons (ps_asg (pv 0) (pg_tup rfl (pgs_cons (pg_name (i := 2) sc_whole_wave.nd rfl (.inl rfl)) (pgs_cons (pg_name (i := 3) sc_whole_wave.nd rfl (.inl rfl)) pgs_nil))))
      (pss_cons (ps_frz (ps_setLc (i := 4) (own := [("p", 5), ("q", 6)]) (g := gTup K 2 (gCons (gName 5) (gCons (gName 6) gNil))) (by rfl) sc_whole_wave.nd rfl rfl (by rfl) (pi_tup (pv 3)) (blkOk_by (own := [("p", 5), ("q", 6)]) (N := N_whole_wave) (sc := defScope s_whole_wave) (by decide +kernel)) (fun _ _ _ _ _ => (pg_tup rfl (pgs_cons (pg_name (i := 5) sc_whole_wave.nd rfl (Or.inl rfl)) (pgs_cons (pg_name (i := 6) sc_whole_wave.nd rfl (Or.inl rfl)) pgs_nil)))) (fun _ _ _ _ _ => pts_nil) (fun _ _ _ _ _ => (pe_tup (pa_cons (pe_op op_mulX (pe_ix (ix_tupK (K := K) rfl) (pv 5) pe_int (fun _ _ => rfl)) (pe_op (op_fdivS (P := P) (base := base) hr) (pv 1) (pe_ix (ix_tupK (K := K) rfl) (pv 5) pe_int (fun _ _ => rfl)))) (pa_cons (pe_op op_mulX (pe_ix (ix_tupK (K := K) rfl) (pv 6) pe_int (fun _ _ => rfl)) (pe_op (op_fdivS (P := P) (base := base) hr) (pv 1) (pe_ix (ix_tupK (K := K) rfl) (pv 6) pe_int (fun _ _ => rfl)))) pa_nil))))))
      (pss_one (ps_ret (pe_tup (pa_cons (pe_op op_mulX (pe_ix ix_tup (pv 2) pe_int (fun _ _ => rfl)) (pe_op (op_fdivS (P := P) (base := base) hr) (pv 1) (pe_ix ix_tup (pv 2) pe_int (fun _ _ => rfl)))) (pa_cons (pv 4) pa_nil))))))), ?_⟩)
  obtain ⟨⟨k, L⟩, c⟩ := a
  obtain ⟨h8, hb, c0, hc⟩ := hp
  dsimp only at h8 hb c0 hc
  have dp : ∀ x : Rat, (0 : Int) < (x.den : Int) := fun x => by have := x.den_pos; omega
  have dv : ∀ x : Rat, bd 6000 (c / (x.den : Int)) := fun x => bd_le (Int.natAbs_ediv_le_natAbs c _) hc
  have mu : ∀ {x : Rat}, Rb 50000000 x → CMulX x.num (c / (x.den : Int)) := fun {x} h => mul_bd (n := 50000000) (show x.num.natAbs < 2 ^ 50000000 from h.1) (bd_mono (dv x) (by decide))
  refine run_asgD ev_var (tg_tup (tgs_cons tg_name (tgs_cons tg_name tgs_nil))) ?_
  refine run_setFD (ds := (L.map (whP c)).map iiD) (EvL.mono (el_cT (L := L) pD (fun _ => true) (fun z => iiD (whP c z)) ev_var (by omega) fun z hz => ⟨_, tc_pair, et_yes, fun _ => ev_tup (ea_cons (ev_I (ev_ixT ev_var ev_int) (ev_I ev_var (ev_ixT ev_var ev_int) (dp z.1)) (mu (hb.2 z hz).1)) (ea_cons (ev_I (ev_ixT ev_var ev_int) (ev_I ev_var (ev_ixT ev_var ev_int) (dp z.2)) (mu (hb.2 z hz).2)) ea_nil))⟩) fun ds e => ?_) ?_
  · rw [show ds = _ from e, filter_tt, List.map_map]
    rfl
  exact run_retD (ev_tup (ea_cons (ev_I (ev_ixT ev_var ev_int) (ev_I ev_var (ev_ixT ev_var ev_int) (dp k)) (mu hb.1)) (ea_cons ev_var ea_nil))) rfl
theorem ok_ratio_sum (T : Tx K mg) : FnOk P w K mg base CX0 34 T.f_ratio_sum T.fd_ratio_sum ["one", "other"] (spP K (fun a : Rat × Rat => [rt a.1, rt a.2]) (fun a => Rb 20000000 a.1 ∧ Rb 20000000 a.2) fun a => Is (rt (a.1 + a.2))) := by
  have G_ratio := ok_ratio (P := P) (w := w) (base := base) T
  refine fnP T.F_ratio_sum sc_ratio_sum (fun _ => rfl) (fun cdv A outer s H E a hr hp => ⟨_, (pss_one (ps_ret (pe_call G_ratio (hr.mono (by omega)) (by rfl) T.m_ratio T.F_ratio.kp T.b_ratio .nil pass0 (pa_cons (pe_op op_add (pe_op op_mulX (pe_ix ix_tup (pv 0) pe_int (fun _ _ => rfl)) (pe_ix ix_tup (pv 1) pe_int (fun _ _ => rfl))) (pe_op op_mulX (pe_ix ix_tup (pv 1) pe_int (fun _ _ => rfl)) (pe_ix ix_tup (pv 0) pe_int (fun _ _ => rfl)))) (pa_cons (pe_op op_mulX (pe_ix ix_tup (pv 0) pe_int (fun _ _ => rfl)) (pe_ix ix_tup (pv 1) pe_int (fun _ _ => rfl))) pa_nil))))), ?_⟩)
  obtain ⟨x, y⟩ := a
  have h0 := rt_bd hp.1
  have k0 := rt_bd hp.2
  refine run_retD (ev_callD (x.num * (y.den : Int) + y.num * (x.den : Int), (x.den : Int) * (y.den : Int)) (ea_cons (ev_I0 (ev_I (ev_ixT ev_var ev_int) (ev_ixT ev_var ev_int) (mul_bd h0.1 k0.2)) (ev_I (ev_ixT ev_var ev_int) (ev_ixT ev_var ev_int) (mul_bd k0.1 h0.2))) (ea_cons (ev_I (ev_ixT ev_var ev_int) (ev_ixT ev_var ev_int) (mul_bd h0.2 k0.2)) ea_nil)) (Int.mul_pos (den0 x) (den0 y))) ?_
  show frp (red _ _) = _
  rw [add_red]
theorem ok_ratio_product (T : Tx K mg) : FnOk P w K mg base CX0 34 T.f_ratio_product T.fd_ratio_product ["one", "other"] (spP K (fun a : Rat × Rat => [rt a.1, rt a.2]) (fun a => Rb 20000000 a.1 ∧ Rb 20000000 a.2) fun a => Is (rt (a.1 * a.2))) := by
  have G_ratio := ok_ratio (P := P) (w := w) (base := base) T
  refine fnP T.F_ratio_product sc_ratio_product (fun _ => rfl) (fun cdv A outer s H E a hr hp => ⟨_, (pss_one (ps_ret (pe_call G_ratio (hr.mono (by omega)) (by rfl) T.m_ratio T.F_ratio.kp T.b_ratio .nil pass0 (pa_cons (pe_op op_mulX (pe_ix ix_tup (pv 0) pe_int (fun _ _ => rfl)) (pe_ix ix_tup (pv 1) pe_int (fun _ _ => rfl))) (pa_cons (pe_op op_mulX (pe_ix ix_tup (pv 0) pe_int (fun _ _ => rfl)) (pe_ix ix_tup (pv 1) pe_int (fun _ _ => rfl))) pa_nil))))), ?_⟩)
  obtain ⟨x, y⟩ := a
  have h0 := rt_bd hp.1
  have k0 := rt_bd hp.2
  refine run_retD (ev_callD (x.num * y.num, (x.den : Int) * (y.den : Int)) (ea_cons (ev_I (ev_ixT ev_var ev_int) (ev_ixT ev_var ev_int) (mul_bd h0.1 k0.1)) (ea_cons (ev_I (ev_ixT ev_var ev_int) (ev_ixT ev_var ev_int) (mul_bd h0.2 k0.2)) ea_nil)) (Int.mul_pos (den0 x) (den0 y))) ?_
  show frp (red _ _) = _
  rw [mul_red]
theorem ok_fraction_root (T : Tx K mg) : FnOk P w K mg base CX0 34 T.f_fraction_root T.fd_fraction_root ["row"] spNo := Vd.FnOk.no
theorem ok_turn_of (T : Tx K mg) : FnOk P w K mg base CX0 34 T.f_turn_of T.fd_turn_of ["fraction"] spNo := Vd.FnOk.no
theorem ok_join_turns (T : Tx K mg) : FnOk P w K mg base CX0 34 T.f_join_turns T.fd_join_turns ["turn", "other"] (spP K (fun a : Pt × Pt => [tnD a.1, tnD a.2]) (fun a => PtB 4000 a.1 ∧ PtB 4000 a.2) fun a => Is (tnD (a.1.mul a.2))) := by
  have G_ratio := ok_ratio (P := P) (w := w) (base := base) T
  refine fnP T.F_join_turns sc_join_turns (fun _ => rfl) (fun cdv A outer s H E a hr hp => ⟨_, (pss_cons (ps_asg (pv 0) (pg_tup rfl (pgs_cons (pg_tup rfl (pgs_cons (pg_name (i := 2) sc_join_turns.nd rfl (.inl rfl)) (pgs_cons (pg_name (i := 3) sc_join_turns.nd rfl (.inl rfl)) pgs_nil))) (pgs_cons (pg_tup rfl (pgs_cons (pg_name (i := 4) sc_join_turns.nd rfl (.inl rfl)) (pgs_cons (pg_name (i := 5) sc_join_turns.nd rfl (.inl rfl)) pgs_nil))) pgs_nil))))
      (pss_cons (ps_asg (pv 1) (pg_tup rfl (pgs_cons (pg_tup rfl (pgs_cons (pg_name (i := 6) sc_join_turns.nd rfl (.inl rfl)) (pgs_cons (pg_name (i := 7) sc_join_turns.nd rfl (.inl rfl)) pgs_nil))) (pgs_cons (pg_tup rfl (pgs_cons (pg_name (i := 8) sc_join_turns.nd rfl (.inl rfl)) (pgs_cons (pg_name (i := 5) sc_join_turns.nd rfl (.inl rfl)) pgs_nil))) pgs_nil))))
      (pss_one (ps_ret (pe_tup (pa_cons (pe_call G_ratio (hr.mono (by omega)) (by rfl) T.m_ratio T.F_ratio.kp T.b_ratio .nil pass0 (pa_cons (pe_op op_sub (pe_op op_mulX (pv 2) (pv 6)) (pe_op op_mulX (pv 4) (pv 8))) (pa_cons (pe_op op_mulX (pv 3) (pv 7)) pa_nil))) (pa_cons (pe_call G_ratio (hr.mono (by omega)) (by rfl) T.m_ratio T.F_ratio.kp T.b_ratio .nil pass0 (pa_cons (pe_op op_add (pe_op op_mulX (pv 2) (pv 8)) (pe_op op_mulX (pv 4) (pv 6))) (pa_cons (pe_op op_mulX (pv 3) (pv 7)) pa_nil))) pa_nil))))))), ?_⟩)
  obtain ⟨p, q⟩ := a
  obtain ⟨hp, hq⟩ := hp
  dsimp only at hp hq
  obtain ⟨b1, b2, b3, _⟩ := hp.bds
  obtain ⟨c1, c2, c3, _⟩ := hq.bds
  have m0 : 0 < (tn p).m * (tn q).m := Int.mul_pos (tn_pos hp.1) (tn_pos hq.1)
  have mb : bd 8000 ((tn p).m * (tn q).m) := bd_mul b3 c3
  obtain ⟨e1, e2⟩ := tn_mul hp.1 hq.1
  refine run_asgD ev_var (tg_tup (tgs_cons (tg_tup (tgs_cons tg_name (tgs_cons tg_name tgs_nil))) (tgs_cons (tg_tup (tgs_cons tg_name (tgs_cons tg_name tgs_nil))) tgs_nil))) ?_
  refine run_asgD ev_var (tg_tup (tgs_cons (tg_tup (tgs_cons tg_name (tgs_cons tg_name tgs_nil))) (tgs_cons (tg_tup (tgs_cons tg_name (tgs_cons tg_name tgs_nil))) tgs_nil))) ?_
  refine run_retD (ev_tup (ea_cons (ev_callD ((tn p).a * (tn q).a - (tn p).b * (tn q).b, (tn p).m * (tn q).m) (ea_cons (ev_I0 (ev_I ev_var ev_var (mul_bd b1 c1)) (ev_I ev_var ev_var (mul_bd b2 c2))) (ea_cons (ev_I ev_var ev_var (mul_bd b3 c3)) ea_nil)) m0)
    (ea_cons (ev_callD ((tn p).a * (tn q).b + (tn p).b * (tn q).a, (tn p).m * (tn q).m) (ea_cons (ev_I0 (ev_I ev_var ev_var (mul_bd b1 c2)) (ev_I ev_var ev_var (mul_bd b2 c1))) (ea_cons (ev_I ev_var ev_var (mul_bd b3 c3)) ea_nil)) m0) ea_nil))) ?_
  show PyData.tuple [frp (red _ _), frp (red _ _)] = _
  rw [e1, e2]
theorem ok_quarter_rows (T : Tx K mg) : FnOk P w K mg base CX0 34 T.f_quarter_rows T.fd_quarter_rows ["wave"] (spG K (fun a : (Rat × List Pr) × Nat => [.d (wD a.1.1 a.1.2)]) (fun a => DvM a.2 a.1.1 a.1.2 ∧ a.1.2.length ≤ 16 ∧ Rb 50000000 a.1.1 ∧ ∀ z ∈ a.1.2, Rb 50000000 z.1 ∧ Rb 50000000 z.2) fun a => rL (fun ds => ∃ c, CsOk a.2 a.1.1 a.1.2 c ∧ ds = (List.range 4).map fun q => lz ((hrowTo (wh c a.1.1) (a.1.2.map (whP c)) q a.1.2.length).map PyData.int))) := by
  have G_whole_wave := ok_whole_wave (P := P) (w := w) (base := base) T
  have G_common_size := ok_common_size (P := P) (w := w) (base := base) T
  have G_half_row := ok_half_row (P := P) (w := w) (base := base) T
  refine fnX T.F_quarter_rows sc_quarter_rows (fun _ => rfl) (fun cdv A outer s H E a wl hr hp => ⟨_, (pss_cons (ps_set (i := 1) sc_quarter_rows.nd rfl (.inr rfl) (pe_call G_whole_wave (hr.mono (by omega)) (by rfl) T.m_whole_wave T.F_whole_wave.kp T.b_whole_wave .nil pass0 (pa_cons (pv 0) (pa_cons (pe_call G_common_size (hr.mono (by omega)) (by rfl) T.m_common_size T.F_common_size.kp T.b_common_size .nil pass0 (pa_cons (pe_lst (pa_cons (pv 0) pa_nil)) pa_nil)) pa_nil))))
      (pss_one (ps_ret (pe_lc (own := [("quarter", 2)]) (g := gName 2) (by rfl) sc_quarter_rows.nd (pi_range1 (by rfl) T.z_range (pa_cons pe_int pa_nil)) (blkOk_by (own := [("quarter", 2)]) (N := N_quarter_rows) (sc := defScope s_quarter_rows) (by decide +kernel)) (fun _ _ _ _ _ => (pg_name (i := 2) sc_quarter_rows.nd rfl (Or.inl rfl))) (fun _ _ _ _ _ => pts_nil) (fun _ _ _ _ _ => (pe_frz (pe_call G_half_row (hr.mono (by omega)) (by rfl) T.m_half_row T.F_half_row.kp T.b_half_row .nil pass0 (pa_cons (pv 1) (pa_cons (pv 2) pa_nil))))))))), ?_⟩)
  obtain ⟨⟨k, L⟩, M⟩ := a
  obtain ⟨hM, h16, hb⟩ := hp
  dsimp only at hM h16 hb
  refine run_sets (S := fun d => ∃ c, CsOk M k L c ∧ d = wholeD c k L) (ev_call (ea2 (S := Is (wD k L)) (S2 := IntP (CsOk M k L)) ev_var (ev_callXD ((k, L), M) (er_l (el_lstD (ea_cons ev_var ea_nil)) er_nil) hM)) ?_) fun d ⟨c, hc, e⟩ => ?_
  · rintro ds ⟨d, e, rfl, h1, ⟨c, rfl, hc⟩⟩
    cases (show d = _ from h1)
    exact ⟨((k, L), c), rfl, ⟨by dsimp only; omega, hb, hc.pos, le_dv hM.pos hM.lt hc.dvd⟩, fun d e => ⟨c, hc, e⟩⟩
  subst e
  refine run_retL (EvL.mono (el_mapR (n := 4) (fun q => lz ((hrowTo (wh c k) (L.map (whP c)) q L.length).map PyData.int)) (ea_cons ev_int ea_nil) (by decide) (by decide) fun q hq => ⟨_, tc_name, ev_lzD (EvL.mono (el_callXD ((wh c k, L.map (whP c)), q) (er_d ev_var (er_d ev_var er_nil)) ⟨by dsimp only; rw [List.length_map]; exact h16, by dsimp only; omega⟩) fun ds e => ?_)⟩) fun ds e => e) fun ds e => ⟨c, hc, e⟩
  rw [show ds = _ from e, List.length_map]
  rfl
theorem ok_pair_product (T : Tx K mg) : FnOk P w K mg base CX0 35 T.f_pair_product T.fd_pair_product ["one", "other"] (spP K (fun a : Pr × Pr => [pD a.1, pD a.2]) (fun a => (Rb 9000000 a.1.1 ∧ Rb 9000000 a.1.2) ∧ (Rb 9000000 a.2.1 ∧ Rb 9000000 a.2.2)) fun a => Is (rt (dt a.1 a.2))) := by
  have G_ratio_sum := ok_ratio_sum (P := P) (w := w) (base := base) T
  have G_ratio_product := ok_ratio_product (P := P) (w := w) (base := base) T
  refine fnP T.F_pair_product sc_pair_product (fun _ => rfl) (fun cdv A outer s H E a hr hp => ⟨_, (pss_one (ps_ret (pe_call G_ratio_sum (hr.mono (by omega)) (by rfl) T.m_ratio_sum T.F_ratio_sum.kp T.b_ratio_sum .nil pass0 (pa_cons (pe_call G_ratio_product (hr.mono (by omega)) (by rfl) T.m_ratio_product T.F_ratio_product.kp T.b_ratio_product .nil pass0 (pa_cons (pe_ix ix_tup (pv 0) pe_int (fun _ _ => rfl)) (pa_cons (pe_ix ix_tup (pv 1) pe_int (fun _ _ => rfl)) pa_nil))) (pa_cons (pe_call G_ratio_product (hr.mono (by omega)) (by rfl) T.m_ratio_product T.F_ratio_product.kp T.b_ratio_product .nil pass0 (pa_cons (pe_ix ix_tup (pv 0) pe_int (fun _ _ => rfl)) (pa_cons (pe_ix ix_tup (pv 1) pe_int (fun _ _ => rfl)) pa_nil))) pa_nil))))), ?_⟩)
  obtain ⟨⟨x, y⟩, ⟨u, v⟩⟩ := a
  obtain ⟨h, k⟩ := hp
  dsimp only at h k
  have m1 : ∀ {x y : Rat}, Rb 9000000 x → Rb 9000000 y → Rb 20000000 (x * y) := fun h k => (rb_mul h k).mono (by decide)
  have m2 : ∀ {x : Rat}, Rb 9000000 x → Rb 20000000 x := fun h => h.mono (by decide)
  exact run_retD (ev_callD (x * u, y * v) (ea_cons (ev_callD (x, u) (ea_cons (ev_ixT ev_var ev_int) (ea_cons (ev_ixT ev_var ev_int) ea_nil)) ⟨m2 h.1, m2 k.1⟩) (ea_cons (ev_callD (y, v) (ea_cons (ev_ixT ev_var ev_int) (ea_cons (ev_ixT ev_var ev_int) ea_nil)) ⟨m2 h.2, m2 k.2⟩) ea_nil)) ⟨m1 h.1 k.1, m1 h.2 k.2⟩) rfl
/-- [..][n], where of the new list something is known -/
theorem ev_ixNP {K : Fr} {w : WA} {ρ : Rho} {ta tb : TE} {n : Int} {Ss : List PyData → Prop} {S : PyData → Prop} (ha : EvL K w ta ρ Ss) (hb : EvD K w tb ρ (Is (.int n))) (hx : ∀ ds, Ss ds → ∃ d, atI ds n = some d ∧ S d) : EvD K w (tOp (rIxL K) ta tb) ρ S := fun σ H0 H E Q q =>
  ha σ H0 H E _ fun p xs ds1 H1 g1 s1 n1 h1 t1 => hb σ H0 H1 (E.go g1) _ fun u d2 H2 g2 s2 t2 => by
    cases (show d2 = _ from s2)
    rw [t2.inv_int]
    obtain ⟨d, hx, sd⟩ := hx ds1 s1
    have nw : w ≠ some p := nw_of (H' := H) E.wok n1
    have al2 := t1.go g1.2 g2
    obtain ⟨j, x, _, hd, hv, hxx⟩ := atI_map al2.length hx
    obtain ⟨x', e', tx⟩ := al2.get hd
    rw [hv] at e'; cases e'
    exact ⟨p, xs, n, x, rfl, rfl, .inl (.inl (g2.1 p _ nw h1)), hxx, q _ _ H2 (g1.trans g2) sd tx⟩
theorem atI_lastN {I : List PyData} {n : Nat} {d : PyData} (hl : I.length = n + 1) (h : I[n]? = some d) : atI I (-1) = some d := by
  rcases List.eq_nil_or_concat I with rfl | ⟨J, a, rfl⟩
  · cases hl
  · rw [List.concat_eq_append] at *
    rw [atI_last]
    rw [List.length_append, List.length_singleton] at hl
    rw [List.getElem?_append_right (by omega), show n - J.length = 0 by omega] at h
    exact h
theorem ok_zero_turn (T : Tx K mg) : FnOk P w K mg base CX0 35 T.f_zero_turn T.fd_zero_turn ["wave"] (spP K (fun a : List Pr => [wD 0 a]) (fun a => a.length ≤ 16 ∧ (∀ z ∈ a, z.1 = 0 ∧ z.2.den = 1 ∧ Rb 50000000 z.2)) fun a => Is (tnD ⟨-1, 0, 1⟩)) := by
  have G_fraction_root := ok_fraction_root (P := P) (w := w) (base := base) T
  have G_quarter_rows := ok_quarter_rows (P := P) (w := w) (base := base) T
  have G_single_factors := ok_single_factors (P := P) (w := w) (base := base) T
  have G_turn_of := ok_turn_of (P := P) (w := w) (base := base) T
  refine fnP T.F_zero_turn sc_zero_turn (fun _ => rfl) (fun cdv A outer s H E L hr hp => ⟨_, (pss_cons (ps_set (i := 1) sc_zero_turn.nd rfl (.inl rfl) (pe_ix ix_list (pe_call G_quarter_rows (hr.mono (by omega)) (by rfl) T.m_quarter_rows T.F_quarter_rows.kp T.b_quarter_rows .nil pass0 (pa_cons (pv 0) pa_nil)) pe_int (fun _ _ => rfl)))
      (pss_cons (ps_if (pt_cmpR (op_eqD hr.units) (pe_ix ix_list (pv 1) (pe_un un_neg pe_int) (fun _ _ => rfl)) pe_int (nomark _))
        (pss_one (ps_ret (pe_glob (v := V.ref T.a_WEST) (by rfl) T.g_WEST rfl)))
        pss_nil)
      (pss_cons (ps_set (i := 2) sc_zero_turn.nd rfl (.inl rfl) (pe_call G_fraction_root (hr.mono (by omega)) (by rfl) T.m_fraction_root T.F_fraction_root.kp T.b_fraction_root .nil pass0 (pa_cons (pe_call G_single_factors (hr.mono (by omega)) (by rfl) T.m_single_factors T.F_single_factors.kp T.b_single_factors .nil pass0 (pa_cons (pv 1) pa_nil)) pa_nil)))
      (pss_one (ps_ret (pe_ifExp (pt_cmpR op_isN (pv 2) pe_non (nomark _)) pe_non (pe_call G_turn_of (hr.mono (by omega)) (by rfl) T.m_turn_of T.F_turn_of.kp T.b_turn_of .nil pass0 (pa_cons (pv 2) pa_nil)))))))), ?_⟩)
  obtain ⟨h16, hz⟩ := hp
  refine run_sets (S := fun d => ∃ (c : Int) (r : List Int), d = lz (r.map PyData.int) ∧ atI (r.map PyData.int) (-1) = some (.int 0)) (ev_ixNP (S := fun d => ∃ (c : Int) (r : List Int), d = lz (r.map PyData.int) ∧ atI (r.map PyData.int) (-1) = some (.int 0)) (el_callXD (((0 : Rat), L), 1) (er_d ev_var er_nil) ⟨⟨Nat.one_pos, (by decide : 1 < 2 ^ 6000), (by decide : Rat.den 0 ∣ 1), fun z h => ?_⟩, h16, rb_zero (by decide), fun z h => ?_⟩) ev_int fun ds h => ?_) fun d ⟨c, r, e, hl⟩ => ?_
  · obtain ⟨e1, e2, _⟩ := hz z h
    rw [e1, e2]
    exact ⟨(by decide : Rat.den 0 ∣ 1), Nat.dvd_refl 1⟩
  · obtain ⟨e1, _, e3⟩ := hz z h
    rw [e1]
    exact ⟨rb_zero (by decide), e3⟩
  · obtain ⟨c, hc, rfl⟩ := h
    refine ⟨_, rfl, c, _, rfl, ?_⟩
    have w0 : wh c 0 = 0 := Int.zero_mul _
    have p0 : ∀ j, ((L.map (whP c)).getD j (0, 0)).1 = 0 := fun j => by
      rw [List.getD_eq_getElem?_getD, List.getElem?_map]
      cases ej : L[j]? with
      | none => rfl
      | some z => show wh c z.1 = 0; rw [(hz z (List.mem_of_getElem? ej)).1]; exact w0
    have last := hrow_last p0 L.length
    have len := hrow_len 0 (L.map (whP c)) 0 L.length
    show atI ((hrowTo (wh c 0) (L.map (whP c)) 0 L.length).map PyData.int) (-1) = _
    rw [w0]
    generalize hrowTo 0 (L.map (whP c)) 0 L.length = r at last len
    have hl : 2 * L.length < r.length := by omega
    refine atI_lastN (n := 2 * L.length) (by rw [List.length_map, len]) ?_
    rw [List.getD_eq_getElem?_getD, List.getElem?_eq_getElem hl] at last
    rw [List.getElem?_map, List.getElem?_eq_getElem hl]
    exact congrArg (fun z => some (PyData.int z)) last
  subst e
  refine run_ifsD (b := true) (et_test (ev_eqD (ev_ixZ ev_var (ev_neg ev_int) hl) ev_int rfl rfl)) (fun _ => ?_) (fun z => nomatch z)
  exact run_reta (ev_k T.d_WEST) fun d e => by
    rw [show d = _ from e]
    show PyData.tuple [PyData.tuple [.int (-1), .int 1], PyData.tuple [.int 0, .int 1]] = tnD ⟨-1, 0, 1⟩
    kernel_rfl
theorem ok_length_square (T : Tx K mg) : FnOk P w K mg base CX0 36 T.f_length_square T.fd_length_square ["pair"] (spP K (fun a : Pr => [pD a]) (fun a => Rb 9000000 a.1 ∧ Rb 9000000 a.2) fun a => Is (rt (nr a))) := by
  have G_pair_product := ok_pair_product (P := P) (w := w) (base := base) T
  refine fnP T.F_length_square sc_length_square (fun _ => rfl) (fun cdv A outer s H E a hr hp => ⟨_, (pss_one (ps_ret (pe_call G_pair_product (hr.mono (by omega)) (by rfl) T.m_pair_product T.F_pair_product.kp T.b_pair_product .nil pass0 (pa_cons (pv 0) (pa_cons (pv 0) pa_nil))))), ?_⟩)
  exact run_retD (ev_callD (a, a) (ea_cons ev_var (ea_cons ev_var ea_nil)) ⟨hp, hp⟩) rfl
end
end My
set_option Elab.async false
set_option linter.all false
set_option maxRecDepth 100000
set_option maxHeartbeats 4000000
namespace My
open PySem PySem.Spec PyProof.Rows L2 Vd Mt
section
variable {P : Program} {w : World} {K : PySem.W.Frag} {mg : Str → Option Value} {base : Heap} {c Ptb : Addr} [Sees P base]
theorem ok_step_between (T : Tx K mg) : FnOk P w K mg base CX0 37 T.f_step_between T.fd_step_between ["pair", "other"] (spP K (fun a : Pr × Pr => [pD a.1, pD a.2]) (fun a => a.1 ≠ (0, 0) ∧ (Rb 1000 a.1.1 ∧ Rb 1000 a.1.2) ∧ (Rb 1000 a.2.1 ∧ Rb 1000 a.2.2)) fun a => Is (pD (stp a.1 a.2))) := by
  have G_length_square := ok_length_square (P := P) (w := w) (base := base) T
  have G_pair_product := ok_pair_product (P := P) (w := w) (base := base) T
  have G_ratio_product := ok_ratio_product (P := P) (w := w) (base := base) T
  have G_ratio_negative := ok_ratio_negative (P := P) (w := w) (base := base) T
  refine fnP T.F_step_between sc_step_between (fun _ => rfl) (fun cdv A outer s H E a hr hp => ⟨_, (pss_cons (ps_asg (pv 0) (pg_tup rfl (pgs_cons (pg_name (i := 2) sc_step_between.nd rfl (.inl rfl)) (pgs_cons (pg_name (i := 3) sc_step_between.nd rfl (.inl rfl)) pgs_nil))))
      (pss_cons (ps_set (i := 4) sc_step_between.nd rfl (.inl rfl) (pe_call G_length_square (hr.mono (by omega)) (by rfl) T.m_length_square T.F_length_square.kp T.b_length_square .nil pass0 (pa_cons (pv 0) pa_nil)))
      (pss_cons (ps_set (i := 5) sc_step_between.nd rfl (.inl rfl) (pe_tup (pa_cons (pe_ix ix_tup (pv 4) pe_int (fun _ _ => rfl)) (pa_cons (pe_ix ix_tup (pv 4) pe_int (fun _ _ => rfl)) pa_nil))))
      (pss_cons (ps_set (i := 6) sc_step_between.nd rfl (.inl rfl) (pe_call G_pair_product (hr.mono (by omega)) (by rfl) T.m_pair_product T.F_pair_product.kp T.b_pair_product .nil pass0 (pa_cons (pv 0) (pa_cons (pv 1) pa_nil))))
      (pss_cons (ps_set (i := 7) sc_step_between.nd rfl (.inl rfl) (pe_call G_pair_product (hr.mono (by omega)) (by rfl) T.m_pair_product T.F_pair_product.kp T.b_pair_product .nil pass0 (pa_cons (pe_tup (pa_cons (pv 3) (pa_cons (pe_call G_ratio_negative (hr.mono (by omega)) (by rfl) T.m_ratio_negative T.F_ratio_negative.kp T.b_ratio_negative .nil pass0 (pa_cons (pv 2) pa_nil)) pa_nil))) (pa_cons (pv 1) pa_nil))))
      (pss_one (ps_ret (pe_tup (pa_cons (pe_call G_ratio_product (hr.mono (by omega)) (by rfl) T.m_ratio_product T.F_ratio_product.kp T.b_ratio_product .nil pass0 (pa_cons (pv 6) (pa_cons (pv 5) pa_nil))) (pa_cons (pe_call G_ratio_product (hr.mono (by omega)) (by rfl) T.m_ratio_product T.F_ratio_product.kp T.b_ratio_product .nil pass0 (pa_cons (pv 7) (pa_cons (pv 5) pa_nil))) pa_nil)))))))))), ?_⟩)
  obtain ⟨⟨x, y⟩, v⟩ := a
  obtain ⟨nz, h, k⟩ := hp
  dsimp only at nz h k
  have m2 : ∀ {x : Rat}, Rb 1000 x → Rb 9000000 x := fun h => h.mono (by decide)
  have p := nr_pos nz
  have n1 : Rb 4001 (nr (x, y)) := nr_rb (n := 1000) h
  have n2 : Rb 20000000 (nr (x, y))⁻¹ := (inv_rb p n1).mono (by decide)
  have d1 : Rb 20000000 (dt (x, y) v) := (dt_rb (n := 1000) (m := 1000) h k).mono (by decide)
  have d2 : Rb 20000000 (dt (y, -x) v) := (dt_rb (n := 1000) (m := 1000) (z := (y, -x)) ⟨h.2, neg_rb h.1⟩ k).mono (by decide)
  refine run_asgD ev_var (tg_tup (tgs_cons tg_name (tgs_cons tg_name tgs_nil))) ?_
  refine run_setD (ev_callD (x, y) (ea_cons ev_var ea_nil) ⟨m2 h.1, m2 h.2⟩) ?_
  refine run_setD (ev_is (ev_tup (ea_cons (ev_ixT ev_var ev_int) (ea_cons (ev_ixT ev_var ev_int) ea_nil))) (rt_inv p)) ?_
  refine run_setD (ev_callD ((x, y), v) (ea_cons ev_var (ea_cons ev_var ea_nil)) ⟨⟨m2 h.1, m2 h.2⟩, m2 k.1, m2 k.2⟩) ?_
  refine run_setD (ev_callD ((y, -x), v) (ea_cons (ev_tup (ea_cons ev_var (ea_cons (ev_callD x (ea_cons ev_var ea_nil) trivial) ea_nil))) (ea_cons ev_var ea_nil)) ⟨⟨m2 h.2, m2 (neg_rb h.1)⟩, m2 k.1, m2 k.2⟩) ?_
  exact run_retD (ev_tup (ea_cons (ev_callD (dt (x, y) v, (nr (x, y))⁻¹) (ea_cons ev_var (ea_cons ev_var ea_nil)) ⟨d1, n2⟩) (ea_cons (ev_callD (dt (y, -x) v, (nr (x, y))⁻¹) (ea_cons ev_var (ea_cons ev_var ea_nil)) ⟨d2, n2⟩) ea_nil))) rfl
theorem ok_steps_between (T : Tx K mg) : FnOk P w K mg base CX0 38 T.f_steps_between T.fd_steps_between ["wave", "other"] (spG K (fun a : (Rat × List Pr) × Rat × List Pr => [.d (wD a.1.1 a.1.2), .d (wD a.2.1 a.2.2)]) (fun a => Wv a.1.2 ∧ Sz 1000 a.1.2 ∧ Sz 1000 a.2.2) fun a => rL (Is ((zsL a.1.2 a.2.2).map stD))) := by
  have G_step_between := ok_step_between (P := P) (w := w) (base := base) T
  have G_harmonics_of := ok_harmonics_of (P := P) (w := w) (base := base) T
  have G_pair_at := ok_pair_at (P := P) (w := w) (base := base) T
  refine fnX T.F_steps_between sc_steps_between (fun _ => rfl) (fun cdv A outer s H E a wl hr hp => ⟨_, (pss_one (ps_ret (pe_lc (own := [("j", 2)]) (g := gName 2) (by rfl) sc_steps_between.nd (pi_tup (pe_call G_harmonics_of (hr.mono (by omega)) (by rfl) T.m_harmonics_of T.F_harmonics_of.kp T.b_harmonics_of .nil pass0 (pa_cons (pv 0) pa_nil))) (blkOk_by (own := [("j", 2)]) (N := N_steps_between) (sc := defScope s_steps_between) (by decide +kernel)) (fun _ _ _ _ _ => (pg_name (i := 2) sc_steps_between.nd rfl (Or.inl rfl))) (fun _ _ _ _ _ => pts_nil) (fun _ _ _ _ _ => (pe_tup (pa_cons (pv 2) (pa_cons (pe_call G_step_between (hr.mono (by omega)) (by rfl) T.m_step_between T.F_step_between.kp T.b_step_between .nil pass0 (pa_cons (pe_call G_pair_at (hr.mono (by omega)) (by rfl) T.m_pair_at T.F_pair_at.kp T.b_pair_at .nil pass0 (pa_cons (pv 0) (pa_cons (pv 2) pa_nil))) (pa_cons (pe_call G_pair_at (hr.mono (by omega)) (by rfl) T.m_pair_at T.F_pair_at.kp T.b_pair_at .nil pass0 (pa_cons (pv 1) (pa_cons (pv 2) pa_nil))) pa_nil))) pa_nil))))))), ?_⟩)
  obtain ⟨⟨k, L⟩, ⟨k', M⟩⟩ := a
  obtain ⟨hw, hL, hM⟩ := hp
  dsimp only at hw hL hM
  have h8 : (harm L).length ≤ 1000 := by
    have := List.length_filter_le (fun i => decide (L.getD i (0, 0) ≠ (0, 0))) (List.range L.length)
    have h8 := hw.1
    rw [List.length_range] at this
    unfold harm
    omega
  refine run_retL (EvL.mono (el_cT (L := harm L) (fun i : Nat => PyData.int (1 + (i : Int))) (fun _ => true) (fun i => stD (1 + i, stp (gp L i) (gp M i))) (ev_callD (k, L) (ea_cons ev_var ea_nil) hw) h8 fun i hi => ⟨_, tc_name, et_yes, fun _ => ?_⟩) fun ds e => e) fun ds e => ?_
  · exact ev_is (ev_tup (ea_cons ev_var (ea_cons (ev_callD (gp L i, gp M i) (ea_cons (ev_callD ((k, L), i) (ea_cons ev_var (ea_cons ev_var ea_nil)) trivial) (ea_cons (ev_callD ((k', M), i) (ea_cons ev_var (ea_cons ev_var ea_nil)) trivial) ea_nil)) ⟨mem_harm.mp hi, hL i, hM i⟩) ea_nil))) (by unfold stD; rw [Int.natCast_add]; rfl)
  · show ds = _
    rw [show ds = _ from e, filter_tt]
    unfold zsL
    rw [List.map_map]
    rfl
theorem ok_turn_times0 (T : Tx K mg) : FnOk P w K mg base CX0 3 T.f_turn_times T.fd_turn_times ["turn", "times"] (spP K (fun a : Pt × Nat => [tnD a.1, .int (a.2 : Int)]) (fun a => a.1.Ok ∧ (a.1.pow a.2).r.natAbs < 2 ^ bB ∧ a.2 < 2 ^ 0) fun a => Is (tnD (a.1.pow a.2))) := by
  refine fnP (k := 2) T.F_turn_times sc_turn_times (fun _ => rfl) (fun cdv A outer s H E a hr hp => ⟨_, (pss_cons (ps_if (pt_cmpR (op_eqD hr.units) (pv 1) pe_int (nomark _))
        (pss_one (ps_ret (pe_glob (v := V.ref T.a_EAST) (by rfl) T.g_EAST rfl)))
        pss_nil) pss_never), ?_⟩)
  obtain ⟨p, n⟩ := a
  obtain ⟨_, _, hn⟩ := hp
  have hn0 : n = 0 := by dsimp only at hn; omega
  subst hn0
  refine run_ifsD (et_test (ev_eqD ev_var ev_int rfl rfl)) (fun _ => ?_) (fun z => nomatch (show true = false from z))
  exact run_reta (ev_k T.d_EAST) fun d e => e.trans tn_one.symm
theorem ok_turn_timesS (T : Tx K mg) (d : Nat) (G_turn_times : FnOk P w K mg base CX0 (3 + d) T.f_turn_times T.fd_turn_times ["turn", "times"] (spP K (fun a : Pt × Nat => [tnD a.1, .int (a.2 : Int)]) (fun a => a.1.Ok ∧ (a.1.pow a.2).r.natAbs < 2 ^ bB ∧ a.2 < 2 ^ d) fun a => Is (tnD (a.1.pow a.2)))) :
    FnOk P w K mg base CX0 (3 + (d + 1)) T.f_turn_times T.fd_turn_times ["turn", "times"] (spP K (fun a : Pt × Nat => [tnD a.1, .int (a.2 : Int)]) (fun a => a.1.Ok ∧ (a.1.pow a.2).r.natAbs < 2 ^ bB ∧ a.2 < 2 ^ (d + 1)) fun a => Is (tnD (a.1.pow a.2))) := by
  have G_join_powers := ok_join_powers (P := P) (w := w) (base := base) T
  refine fnP (k := 3 + d) T.F_turn_times sc_turn_times (fun _ => rfl) (fun cdv A outer s H E a hr hp => ⟨_, (pss_cons (ps_if (pt_cmpR (op_eqD hr.units) (pv 1) pe_int (nomark _))
        (pss_one (ps_ret (pe_glob (v := V.ref T.a_EAST) (by rfl) T.g_EAST rfl)))
        pss_nil)
      (pss_cons (ps_set (i := 2) sc_turn_times.nd rfl (.inl rfl) (pe_call G_turn_times (hr.mono (by omega)) (by rfl) T.m_turn_times T.F_turn_times.kp T.b_turn_times .nil pass0 (pa_cons (pv 0) (pa_cons (pe_op op_fdivW (pv 1) pe_int) pa_nil))))
      (pss_cons (ps_set (i := 3) sc_turn_times.nd rfl (.inl rfl) (pe_call G_join_powers (hr.mono (by omega)) (by rfl) T.m_join_powers T.F_join_powers.kp T.b_join_powers .nil pass0 (pa_cons (pv 2) (pa_cons (pv 2) pa_nil))))
      (pss_one (ps_ret (pe_ifExp (pt_truth (pe_op op_odd (pv 1) pe_int) (by intro _; rfl)) (pe_call G_join_powers (hr.mono (by omega)) (by rfl) T.m_join_powers T.F_join_powers.kp T.b_join_powers .nil pass0 (pa_cons (pv 3) (pa_cons (pv 0) pa_nil))) (pv 3))))))), ?_⟩)
  obtain ⟨p, n⟩ := a
  obtain ⟨hp, hb, hn⟩ := hp
  dsimp only at hp hb hn
  have b1 := pow_bd hp (k := n / 2) (by omega) hb
  have b2 := pow_bd hp (k := n / 2 + n / 2) (by omega) hb
  refine run_ifsD (b := decide ((n : Int) = 0)) (et_test (ev_is (ev_eqD ev_var ev_int rfl rfl) (congrArg PyData.bool (Bool.beq_eq_decide_eq _ _)))) (fun z => ?_) fun z => ?_
  · have hz : n = 0 := by have := of_decide_eq_true z; omega
    subst hz
    exact run_reta (ev_k T.d_EAST) fun d e => e.trans tn_one.symm
  have n0 : ¬ (n : Int) = 0 := of_decide_eq_false z
  have b3 := pow_bd hp (k := 1) (by omega) hb
  refine run_skip (run_setD (ev_callD (p, n / 2) (ea_cons ev_var (ea_cons (ev_is (ev_I (i := (n : Int)) (j := 2) ev_var ev_int (fdiv_ok (n := 2) (by decide) (by unfold bd; decide))) (congrArg PyData.int (by dsimp only; omega))) ea_nil)) ⟨hp, b1.2, by dsimp only; rw [Nat.pow_succ] at hn; omega⟩) ?_)
  refine run_setD (ev_callD (p, n / 2, n / 2) (ea_cons ev_var (ea_cons ev_var ea_nil)) ⟨hp, b1, b1⟩) ?_
  dsimp only
  have b4 : PtB bB p := by rw [show p.pow 1 = p from one_mul p] at b3; exact b3
  have ez : ((((n % 2 : Nat) : Int) != 0) = true → n = n / 2 + n / 2 + 1) ∧ ((((n % 2 : Nat) : Int) != 0) = false → n = n / 2 + n / 2) := by
    constructor
    · intro z
      have z := bne_iff_ne.mp z
      omega
    · intro z
      have z : ¬ ((n % 2 : Nat) : Int) ≠ 0 := fun q => by rw [bne_iff_ne.mpr q] at z; cases z
      omega
  refine run_ret (S := Is (tnD (p.pow n))) (ev_ifD (et_truI (ev_odd ev_var ev_int)) (fun z => ?_) (fun z => ?_)) (fun d e => e)
  · have e := ez.1 z
    refine EvD.mono (S := Is (tnD (p.pow (n / 2 + n / 2 + 1)))) (ev_callD (p, n / 2 + n / 2, 1) (ea_cons ev_var (ea_cons (ev_is ev_var (congrArg tnD (one_mul p).symm)) ea_nil)) ⟨hp, b2, b3⟩) fun d h => ?_
    rw [e]
    exact h
  · have e := ez.2 z
    refine EvD.mono ev_var fun d h => ?_
    rw [e]
    exact h
theorem ok_turn_times (T : Tx K mg) : ∀ d, FnOk P w K mg base CX0 (3 + d) T.f_turn_times T.fd_turn_times ["turn", "times"] (spP K (fun a : Pt × Nat => [tnD a.1, .int (a.2 : Int)]) (fun a => a.1.Ok ∧ (a.1.pow a.2).r.natAbs < 2 ^ bB ∧ a.2 < 2 ^ d) fun a => Is (tnD (a.1.pow a.2)))
  | 0 => ok_turn_times0 T
  | d + 1 => ok_turn_timesS T d (ok_turn_times T d)
theorem ok_have_one_turn (T : Tx K mg) : FnOk P w K mg base CX0 42 T.f_have_one_turn T.fd_have_one_turn ["one", "two"] (spP K (fun a : Stp × Stp => [stD a.1, stD a.2]) (fun a => (1 ≤ a.1.1 ∧ a.1.1 ≤ 8 ∧ Ub 20000 a.1.2) ∧ (1 ≤ a.2.1 ∧ a.2.1 ≤ 8 ∧ Ub 20000 a.2.2)) fun a => Is (.bool (decide (Sm a.1 a.2)))) := by
  have G_turn_times := ok_turn_times (P := P) (w := w) (base := base) T 7
  refine fnP T.F_have_one_turn sc_have_one_turn (fun _ => rfl) (fun cdv A outer s H E a hr hp => ⟨_, (pss_cons (ps_asg (pe_tup (pa_cons (pv 0) (pa_cons (pv 1) pa_nil))) (pg_tup rfl (pgs_cons (pg_tup rfl (pgs_cons (pg_name (i := 2) sc_have_one_turn.nd rfl (.inl rfl)) (pgs_cons (pg_name (i := 3) sc_have_one_turn.nd rfl (.inl rfl)) pgs_nil))) (pgs_cons (pg_tup rfl (pgs_cons (pg_name (i := 4) sc_have_one_turn.nd rfl (.inl rfl)) (pgs_cons (pg_name (i := 5) sc_have_one_turn.nd rfl (.inl rfl)) pgs_nil))) pgs_nil))))
      (pss_cons (ps_set (i := 6) sc_have_one_turn.nd rfl (.inl rfl) (pe_callBfun cr_gcd (by rfl) T.m_gcd (pa_cons (pv 2) (pa_cons (pv 4) pa_nil))))
      (pss_one (ps_ret (pe_cmpR (op_eqD hr.units) (pe_call G_turn_times (hr.mono (by omega)) (by rfl) T.m_turn_times T.F_turn_times.kp T.b_turn_times .nil pass0 (pa_cons (pv 3) (pa_cons (pe_op op_fdivW (pv 4) (pv 6)) pa_nil))) (pe_call G_turn_times (hr.mono (by omega)) (by rfl) T.m_turn_times T.F_turn_times.kp T.b_turn_times .nil pass0 (pa_cons (pv 5) (pa_cons (pe_op op_fdivW (pv 2) (pv 6)) pa_nil))) (nomark _)))))), ?_⟩)
  obtain ⟨⟨i, z⟩, ⟨j, v⟩⟩ := a
  obtain ⟨⟨i1, i8, p, hp, rfl⟩, ⟨j1, j8, q, hq, rfl⟩⟩ := hp
  dsimp only at i1 i8 j1 j8
  obtain ⟨g0, ei, ej⟩ := gd (k := j) (show 0 < i from i1)
  have gl : Nat.gcd i j ≤ 8 := Nat.le_trans (Nat.le_of_dvd i1 (Nat.gcd_dvd_left i j)) i8
  have gb : bd 4 ((Nat.gcd i j : Nat) : Int) := by unfold bd; omega
  have eg : gc (i : Int) (j : Int) = ((Nat.gcd i j : Nat) : Int) := by unfold gc; rw [Int.natAbs_natCast, Int.natAbs_natCast]
  have di : i / Nat.gcd i j ≤ 8 := Nat.le_trans (Nat.div_le_self _ _) i8
  have dj : j / Nat.gcd i j ≤ 8 := Nat.le_trans (Nat.div_le_self _ _) j8
  have pw : ∀ {p : Pt} {n : Nat}, PtB 20000 p → n ≤ 8 → (p.pow n).r.natAbs < 2 ^ bB := fun hp hn => pow_size hp.2 (by unfold bB; omega)
  refine run_asgD (ev_tup (ea_cons ev_var (ea_cons ev_var ea_nil))) (tg_tup (tgs_cons (tg_tup (tgs_cons tg_name (tgs_cons tg_name tgs_nil))) (tgs_cons (tg_tup (tgs_cons tg_name (tgs_cons tg_name tgs_nil))) tgs_nil))) ?_
  refine run_setD (ev_is (ev_gcd ev_var ev_var) (congrArg PyData.int eg)) ?_
  refine run_retD (ev_eqD (ev_callD (p, j / Nat.gcd i j) (ea_cons (ev_is ev_var (tn_rt hp.1).symm) (ea_cons (ev_is (ev_I (i := (j : Int)) (j := ((Nat.gcd i j : Nat) : Int)) ev_var ev_var (fdiv_ok (n := 4) (by omega) gb)) (congrArg PyData.int (Int.natCast_ediv j _).symm)) ea_nil)) ⟨hp.1, pw hp dj, by dsimp only; omega⟩)
    (ev_callD (q, i / Nat.gcd i j) (ea_cons (ev_is ev_var (tn_rt hq.1).symm) (ea_cons (ev_is (ev_I (i := (i : Int)) (j := ((Nat.gcd i j : Nat) : Int)) ev_var ev_var (fdiv_ok (n := 4) (by omega) gb)) (congrArg PyData.int (Int.natCast_ediv i _).symm)) ea_nil)) ⟨hq.1, pw hq di, by dsimp only; omega⟩) rfl rfl) ?_
  refine congrArg PyData.bool ?_
  rw [tn_rt (pow_ok hp.1 _), tn_rt (pow_ok hq.1 _), eqv_pDD]
  exact decide_eq_decide.mpr (by rw [← np_pt hp.1, ← np_pt hq.1]; exact Iff.rfl)
theorem ok_shared_step (T : Tx K mg) : FnOk P w K mg base CX0 42 T.f_shared_step T.fd_shared_step ["one", "two"] (spP K (fun a : Nat × Nat => [.tuple [.int (a.1 : Int), tnD Pt.one], .tuple [.int (a.2 : Int), tnD Pt.one]]) (fun a => a.1 ≤ 8 ∧ a.2 ≤ 8) fun a => Is (.tuple [.int ((Nat.gcd a.1 a.2 : Nat) : Int), tnD Pt.one])) := by
  have G_join_turns := ok_join_turns (P := P) (w := w) (base := base) T
  have G_back := ok_back (P := P) (w := w) (base := base) T
  have G_turn_times := ok_turn_times (P := P) (w := w) (base := base) T 7
  refine fnP T.F_shared_step sc_shared_step (fun _ => rfl) (fun cdv A outer s H E a hr hp => ⟨_, (pss_cons (ps_while PassesOwn.never (pt_cmpR op_gt (pe_ix ix_tup (pv 1) pe_int (fun _ _ => rfl)) pe_int (nomark _))
        (pss_cons (ps_set (i := 2) sc_shared_step.nd rfl (.inl rfl) (pe_op op_fdivW (pe_ix ix_tup (pv 0) pe_int (fun _ _ => rfl)) (pe_ix ix_tup (pv 1) pe_int (fun _ _ => rfl))))
        (pss_cons (ps_set (i := 3) sc_shared_step.nd rfl (.inl rfl) (pe_call G_join_turns (hr.mono (by omega)) (by rfl) T.m_join_turns T.F_join_turns.kp T.b_join_turns .nil pass0 (pa_cons (pe_ix ix_tup (pv 0) pe_int (fun _ _ => rfl)) (pa_cons (pe_call G_turn_times (hr.mono (by omega)) (by rfl) T.m_turn_times T.F_turn_times.kp T.b_turn_times .nil pass0 (pa_cons (pe_call G_back (hr.mono (by omega)) (by rfl) T.m_back T.F_back.kp T.b_back .nil pass0 (pa_cons (pe_ix ix_tup (pv 1) pe_int (fun _ _ => rfl)) pa_nil)) (pa_cons (pv 2) pa_nil))) pa_nil))))
        (pss_one (ps_par (i := 0) (j := 1) (by rfl) sc_shared_step.nd rfl rfl (by decide) rfl rfl (pa_cons (pv 1) (pa_cons (pe_tup (pa_cons (pe_op op_sub (pe_ix ix_tup (pv 0) pe_int (fun _ _ => rfl)) (pe_op op_mulX (pv 2) (pe_ix ix_tup (pv 1) pe_int (fun _ _ => rfl)))) (pa_cons (pv 3) pa_nil))) pa_nil)) (by rfl))))))
      (pss_one (ps_ret (pv 0)))), ?_⟩)
  obtain ⟨g, h⟩ := a
  obtain ⟨h1, h2⟩ := hp
  dsimp only at h1 h2
  have ob : PtB 4000 Pt.one := ⟨⟨by decide, by decide⟩, by decide⟩
  have cj : Pt.one.conj = Pt.one := rfl
  refine run_seq (N1 := fun ρ' => ∃ o1 o2 o3 : Option Sl, ρ' = [some (.d (.tuple [.int ((Nat.gcd g h : Nat) : Int), tnD Pt.one])), o1, o2, o3])
    (run_while (fun k ρ' => ∃ (x : Nat) (o2 o3 : Option Sl), x ≤ 8 ∧ k ≤ 8 ∧ Nat.gcd x k = Nat.gcd g h ∧ ρ' = [some (.d (.tuple [.int (x : Int), tnD Pt.one])), some (.d (.tuple [.int (k : Int), tnD Pt.one])), o2, o3]) h ⟨g, none, none, h1, h2, rfl, rfl⟩ fun k ρ' ⟨x, o2, o3, x8, k8, hg, e⟩ => ?_) fun ρ' ⟨o1, o2, o3, e⟩ => ?_
  · subst e
    refine ⟨Is (decide ((0 : Int) < (k : Int))), et_test (ev_B0 (ev_ixT ev_var ev_int) ev_int), fun z => ?_, fun z => ?_⟩
    · have k0 : (0 : Int) < (k : Int) := of_decide_eq_true z.symm
      have ed : (x : Int) / (k : Int) = ((x / k : Nat) : Int) := (Int.natCast_ediv x k).symm
      have dl : x / k ≤ 8 := Nat.le_trans (Nat.div_le_self _ _) x8
      have bq : bd 8 ((x / k : Nat) : Int) := by
        show (((x / k : Nat) : Int)).natAbs < 2 ^ 8
        rw [Int.natAbs_natCast]
        omega
      refine run_setD (ev_is (ev_I (ev_ixT ev_var ev_int) (ev_ixT ev_var ev_int) (fdiv_ok (n := 8) k0 (by unfold bd; omega))) (congrArg PyData.int ed)) ?_
      refine run_setD (d := tnD Pt.one) (ev_is (ev_callD (Pt.one, Pt.one.conj.pow (x / k)) (ea_cons (ev_ixT ev_var ev_int) (ea_cons (ev_callD (Pt.one.conj, x / k) (ea_cons (ev_callD Pt.one (ea_cons (ev_ixT ev_var ev_int) ea_nil) ob) (ea_cons ev_var ea_nil)) ⟨by rw [cj]; exact ob.1, by dsimp only; rw [cj, one_pow]; exact Nat.one_lt_two_pow (by decide), by dsimp only; omega⟩) ea_nil)) ⟨ob, by rw [cj, one_pow]; exact ob⟩) (congrArg tnD (show Pt.one.mul (Pt.one.conj.pow (x / k)) = Pt.one by rw [cj, one_pow]; rfl))) ?_
      have md : (x : Int) - ((x / k : Nat) : Int) * (k : Int) = ((x % k : Nat) : Int) := by
        have := Nat.div_add_mod x k
        have e2 : ((x / k : Nat) : Int) * (k : Int) = ((k * (x / k) : Nat) : Int) := by rw [Int.natCast_mul, Int.mul_comm]
        omega
      refine run_par1 (d := .tuple [.int (k : Int), tnD Pt.one]) (e := .tuple [.int ((x % k : Nat) : Int), tnD Pt.one]) (ea_cons ev_var (ea_cons (ev_tup (ea_cons (ev_is (ev_I0 (ev_ixT ev_var ev_int) (ev_I (i := ((x / k : Nat) : Int)) (j := (k : Int)) ev_var (ev_ixT ev_var ev_int) (mul_bd (n := 8) bq (by unfold bd; omega)))) (congrArg PyData.int md)) (ea_cons ev_var ea_nil))) ea_nil)) ⟨x % k, Nat.mod_lt _ (by omega), k, _, _, k8, ?_, (gcd_step x k).trans hg, rfl⟩
      have := Nat.mod_lt x (show 0 < k by omega)
      omega
    · have k0 : k = 0 := by have := of_decide_eq_false z.symm; omega
      subst k0
      rw [Nat.gcd_zero_right] at hg
      exact ⟨some (.d (.tuple [.int ((0 : Nat) : Int), tnD Pt.one])), o2, o3, by rw [← hg]⟩
  · subst e
    exact run_retD ev_var rfl
instance : Inhabited Pt := ⟨Pt.one⟩
def unsH : Nat → List (Int × Int)
  | 0 => [(0, 1), (1, 1), (1, 0), (-1, 1)]
  | 2 => [(0, 1), (1, 0)]
  | _ => [(0, 1)]
/-- the quarters whose power is (1, 0), by their half tangents, in order -/
def uns (d : Nat) : List (Int × Int) := unsH (d % 4)
def untH : Nat → List (Int × Int)
  | 0 => [(1, 0), (-1, 1), (0, 1), (1, 1)]
  | 2 => [(1, 0), (0, 1)]
  | _ => [(0, 1)]
/-- the same as they are found -/
def unt (d : Nat) : List (Int × Int) := untH (d % 4)
def qts : List Pt := [⟨1, 0, 1⟩, ⟨0, 1, 1⟩, ⟨-1, 0, 1⟩, ⟨0, -1, 1⟩]
def aro : List Pt := qts.map fun q => (⟨-1, 0, 1⟩ : Pt).mul q
theorem aro_ok : ∀ t ∈ aro, PtB 4000 t := by
  intro t ht
  simp only [aro, qts, List.map_cons, List.map_nil, List.mem_cons, List.not_mem_nil, or_false] at ht
  rcases ht with rfl | rfl | rfl | rfl <;> exact ⟨⟨by decide, by decide⟩, by decide⟩
theorem unit_pow {t : Pt} (h : t.r = 1) (n : Nat) : (t.pow n).r = 1 := by
  induction n with
  | zero => rfl
  | succ n ih => show (t.pow n).r * t.r = 1; rw [ih, h]; rfl
theorem aro_r : ∀ t ∈ aro, t.r = 1 := by decide
theorem unt_eq {d : Nat} (h1 : 1 ≤ d) (h8 : d ≤ 8) : (aro.filter fun t => PyData.eqv (tnD (t.pow d)) (tnD Pt.one)).map tnD = (unt d).map tH := by
  have : d = 1 ∨ d = 2 ∨ d = 3 ∨ d = 4 ∨ d = 5 ∨ d = 6 ∨ d = 7 ∨ d = 8 := by omega
  rcases this with rfl | rfl | rfl | rfl | rfl | rfl | rfl | rfl <;> kernel_rfl
theorem unt_ok (d : Nat) : Hvs (unt d) := by
  have h : ∀ r, Hvs (untH r) := fun r => by
    unfold untH
    split
    · exact ⟨fun h hh => by simp at hh; rcases hh with rfl | rfl | rfl | rfl <;> exact ⟨by decide, by decide, by decide⟩, by decide⟩
    · exact ⟨fun h hh => by simp at hh; rcases hh with rfl | rfl <;> exact ⟨by decide, by decide, by decide⟩, by decide⟩
    · exact ⟨fun h hh => by simp at hh; subst hh; exact ⟨by decide, by decide, by decide⟩, by decide⟩
  exact h _
theorem uns_perm (d : Nat) : (uns d).Perm (unt d) ∧ (uns d).Pairwise fun x y => hle x y = true := by
  have h : ∀ r, (unsH r).Perm (untH r) ∧ (unsH r).Pairwise fun x y => hle x y = true := fun r => by
    unfold unsH untH
    split
    · exact ⟨by decide, by decide⟩
    · exact ⟨by decide, by decide⟩
    · exact ⟨by decide, by decide⟩
  exact h _
theorem ok_turns_with_power (T : Tx K mg) (TB : LamX.TabB base mg c Ptb) (hcd : T.fd_in_order.code = .ref c) (hP : tabOf K = some Ptb) : FnOk P w K mg base CX0 42 T.f_turns_with_power T.fd_turns_with_power ["power", "number"] (spP K (fun a : Nat => [tnD Pt.one, .int (a : Int)]) (fun a => 1 ≤ a ∧ a ≤ 8) fun a => Is (.tuple ((uns a).map tH))) := by
  have G_made_wave := ok_made_wave (P := P) (w := w) (base := base) T
  have G_ratio_negative := ok_ratio_negative (P := P) (w := w) (base := base) T
  have G_zero_turn := ok_zero_turn (P := P) (w := w) (base := base) T
  have G_join_turns := ok_join_turns (P := P) (w := w) (base := base) T
  have G_turn_times := ok_turn_times (P := P) (w := w) (base := base) T 7
  have G_in_order := ok_in_order (P := P) (w := w) (base := base) T TB hcd hP
  refine fnP T.F_turns_with_power sc_turns_with_power (fun _ => rfl) (fun cdv A outer s H E d hr hp => ⟨_, (pss_cons (ps_asg (pv 0) (pg_tup rfl (pgs_cons (pg_name (i := 2) sc_turns_with_power.nd rfl (.inl rfl)) (pgs_cons (pg_name (i := 3) sc_turns_with_power.nd rfl (.inl rfl)) pgs_nil))))
      (pss_cons (ps_set (i := 4) sc_turns_with_power.nd rfl (.inl rfl) (pe_call G_made_wave (hr.mono (by omega)) (by rfl) T.m_made_wave T.F_made_wave.kp T.b_made_wave .nil pass0 (pa_cons (pe_glob (v := V.ref T.a_NOUGHT) (by rfl) T.g_NOUGHT rfl) (pa_cons (pe_op op_cat (pe_op op_rep (pe_lst (pa_cons (pe_glob (v := V.ref T.a_BLANK) (by rfl) T.g_BLANK rfl) pa_nil)) (pe_op op_sub (pv 1) pe_int)) (pe_lst (pa_cons (pe_tup (pa_cons (pe_call G_ratio_negative (hr.mono (by omega)) (by rfl) T.m_ratio_negative T.F_ratio_negative.kp T.b_ratio_negative .nil pass0 (pa_cons (pv 3) pa_nil)) (pa_cons (pv 2) pa_nil))) pa_nil))) pa_nil))))
      (pss_cons (ps_set (i := 5) sc_turns_with_power.nd rfl (.inr rfl) (pe_call G_zero_turn (hr.mono (by omega)) (by rfl) T.m_zero_turn T.F_zero_turn.kp T.b_zero_turn .nil pass0 (pa_cons (pv 4) pa_nil)))
      (pss_cons (ps_if (pt_cmpR op_isN (pv 5) pe_non (nomark _))
        (pss_one (ps_ret (pe_tup pa_nil)))
        pss_nil)
      (pss_cons (ps_setLc (i := 6) (own := [("quarter", 7)]) (g := gName 7) (by rfl) sc_turns_with_power.nd rfl rfl (by rfl) (pi_tup (pe_glob (v := V.ref T.a_QUARTER_TURNS) (by rfl) T.g_QUARTER_TURNS rfl)) (blkOk_by (own := [("quarter", 7)]) (N := N_turns_with_power) (sc := defScope s_turns_with_power) (by decide +kernel)) (fun _ _ _ _ _ => (pg_name (i := 7) sc_turns_with_power.nd rfl (Or.inl rfl))) (fun _ _ _ _ _ => pts_nil) (fun _ _ _ _ _ => (pe_call G_join_turns (hr.mono (by omega)) (by rfl) T.m_join_turns T.F_join_turns.kp T.b_join_turns .nil pass0 (pa_cons (pv 5) (pa_cons (pv 7) pa_nil)))))
      (pss_one (ps_ret (pe_call G_in_order (hr.mono (by omega)) (by rfl) T.m_in_order T.F_in_order.kp T.b_in_order .nil pass0 (pa_cons (pe_callTy call_tuple_of (by rfl) T.z_tuple (by decide +kernel) (pa_cons (pe_lc (own := [("turn", 8)]) (g := gName 8) (by rfl) sc_turns_with_power.nd (pi_list (pv 6)) (blkOk_by (own := [("turn", 8)]) (N := N_turns_with_power) (sc := defScope s_turns_with_power) (by decide +kernel)) (fun _ _ _ _ _ => (pg_name (i := 8) sc_turns_with_power.nd rfl (Or.inl rfl))) (fun _ _ _ _ _ => pts_one (pt_cmpR (op_eqDK (K := K) rfl hr.units) (pe_call G_turn_times (hr.mono (by omega)) (by rfl) T.m_turn_times T.F_turn_times.kp T.b_turn_times .nil pass0 (pa_cons (pv 8) (pa_cons (pv 1) pa_nil))) (pv 0) (nomark _))) (fun _ _ _ _ _ => (pv 8))) pa_nil)) pa_nil))))))))), ?_⟩)
  obtain ⟨d1, d8⟩ := hp
  have eo : tnD Pt.one = pD (1, 0) := by kernel_rfl
  refine run_asgD (d := pD (1, 0)) (ev_is ev_var eo) (tg_tup (tgs_cons tg_name (tgs_cons tg_name tgs_nil))) ?_
  have fl : (List.replicate ((d : Int) - 1).toNat [pD (0, 0)]).flatten ++ [pD (0, 1)] = (List.replicate (d - 1) (0, 0) ++ [(0, 1)] : List Pr).map pD := by
    rw [List.map_append, List.map_replicate, show ((d : Int) - 1).toNat = d - 1 by omega]
    congr 1
    generalize d - 1 = n
    induction n with
    | zero => rfl
    | succ n ih => rw [List.replicate_succ, List.flatten_cons, ih, List.replicate_succ]; rfl
  have tr : trimR (List.replicate (d - 1) (0, 0) ++ [(0, 1)] : List Pr) = List.replicate (d - 1) (0, 0) ++ [(0, 1)] := trimR_self fun I l e => by
    have := List.append_inj_right' e rfl
    cases this
    decide
  refine run_setD (d := wD 0 (List.replicate (d - 1) (0, 0) ++ [(0, 1)])) (ev_is (ev_callXD ((0 : Rat), (List.replicate (d - 1) (0, 0) ++ [(0, 1)] : List Pr)) (er_d (ev_is (ev_k T.d_NOUGHT) (show _ = rt 0 from by kernel_rfl)) (er_l (EvL.mono (el_cat (el_repD (ds := [pD (0, 0)]) (el_lstD (ea_cons (ev_is (ev_k T.d_BLANK) (show _ = pD (0, 0) from by kernel_rfl)) ea_nil)) (ev_I0 ev_var ev_int) ⟨by omega, by omega⟩) (el_lstD (ds := [pD (0, 1)]) (ea_cons (ev_is (ev_tup (ea_cons (ev_callD (0 : Rat) (ea_cons ev_var ea_nil) trivial) (ea_cons ev_var ea_nil))) (show _ = pD (0, 1) from by kernel_rfl)) ea_nil)) ?_) fun ds e => ?_) er_nil)) ?_) (by dsimp only; rw [tr])) ?_
  · rw [List.length_flatten]
    simp
    omega
  · rw [show ds = _ from e]; exact fl
  · show (List.replicate (d - 1) (0, 0) ++ [(0, 1)] : List Pr).length ≤ 1000
    rw [List.length_append, List.length_replicate, List.length_singleton]; omega
  refine run_setD (d := tnD ⟨-1, 0, 1⟩) (ev_callD (List.replicate (d - 1) (0, 0) ++ [(0, 1)] : List Pr) (ea_cons ev_var ea_nil) ⟨by rw [List.length_append, List.length_replicate, List.length_singleton]; omega, fun z hz => ?_⟩) ?_
  · rcases List.mem_append.mp hz with h | h
    · rw [(List.mem_replicate.mp h).2]; exact ⟨rfl, rfl, rb_zero (by decide)⟩
    · rw [List.mem_singleton.mp h]; exact ⟨rfl, rfl, Nat.one_lt_two_pow (by decide), Nat.one_lt_two_pow (by decide)⟩
  refine run_ifsD (b := false) (et_test (ev_isNA ev_var)) (fun z => nomatch z) fun _ => run_skip ?_
  have wb : PtB 4000 (⟨-1, 0, 1⟩ : Pt) := ⟨⟨by decide, by decide⟩, by decide⟩
  have qb : ∀ q ∈ qts, PtB 4000 q := by
    intro q hq
    simp only [qts, List.mem_cons, List.not_mem_nil, or_false] at hq
    rcases hq with rfl | rfl | rfl | rfl <;> exact ⟨⟨by decide, by decide⟩, by decide⟩
  refine run_setLD (ds := aro.map tnD) (EvL.mono (el_cT (L := qts) tnD (fun _ => true) (fun q => tnD ((⟨-1, 0, 1⟩ : Pt).mul q)) (ev_is (ev_k T.d_QUARTER_TURNS) (show _ = PyData.tuple (qts.map tnD) from by kernel_rfl)) (by decide) fun q hq => ⟨_, tc_name, et_yes, fun _ => ev_callD ((⟨-1, 0, 1⟩ : Pt), q) (ea_cons ev_var (ea_cons ev_var ea_nil)) ⟨wb, qb q hq⟩⟩) fun ds e => ?_) ?_
  · rw [show ds = _ from e, filter_tt]
    unfold aro
    rw [List.map_map]
    rfl
  refine run_ret (S := Is (.tuple ((uns d).map tH))) (EvD.mono (ev_callD (unt d) (ea_cons (ev_tupOf (ds := (unt d).map tH) (EvL.mono (el_cL (L := aro) tnD (fun t => PyData.eqv (tnD (t.pow d)) (tnD Pt.one)) tnD (.inl rfl) (by decide) fun t ht => ⟨_, tc_name, et_test (ev_eqD (ev_callD (t, d) (ea_cons ev_var (ea_cons ev_var ea_nil)) ⟨(aro_ok t ht).1, ?_, by dsimp only; omega⟩) ev_var rfl rfl), fun _ => ev_var⟩) fun ds e => ?_)) ea_nil) (unt_ok d)) fun z h => ?_) fun z e => e
  · dsimp only
    rw [unit_pow (aro_r t ht)]
    exact Nat.one_lt_two_pow (by decide)
  · rw [show ds = _ from e]
    exact unt_eq d1 d8
  · exact h (uns d) (uns_perm d).1 (uns_perm d).2
end
end My
set_option Elab.async false
set_option linter.all false
set_option maxRecDepth 100000
set_option maxHeartbeats 4000000
namespace My
open PySem PySem.Spec PyProof.Rows L2 Vd Mt
section
variable {P : Program} {w : World} {K : PySem.W.Frag} {mg : Str → Option Value} {base : Heap} {c Ptb : Addr} [Sees P base]
theorem ok_parting (T : Tx K mg) : FnOk P w K mg base CX0 43 T.f_parting T.fd_parting ["wave", "other"] (spP K (fun a : (Rat × List Pr) × Rat × List Pr => [wD a.1.1 a.1.2, wD a.2.1 a.2.2]) (fun a => (Wv a.1.2 ∧ Sz 1000 a.1.2) ∧ (Wv a.2.2 ∧ Sz 1000 a.2.2)) fun a => Is (ptg a.1.1 a.2.1 a.1.2 a.2.2)) := by
  have G_check_wave := ok_check_wave (P := P) (w := w) (base := base) T
  have G_steps_between := ok_steps_between (P := P) (w := w) (base := base) T
  have G_length_square := ok_length_square (P := P) (w := w) (base := base) T
  have G_have_one_turn := ok_have_one_turn (P := P) (w := w) (base := base) T
  have G_pair_at := ok_pair_at (P := P) (w := w) (base := base) T
  refine fnP T.F_parting sc_parting (fun _ => rfl) (fun cdv A outer s H E a hr hp => ⟨_, (pss_cons (ps_expr (pe_call G_check_wave (hr.mono (by omega)) (by rfl) T.m_check_wave T.F_check_wave.kp T.b_check_wave .nil pass0 (pa_cons (pv 0) pa_nil)))
      (pss_cons (ps_expr (pe_call G_check_wave (hr.mono (by omega)) (by rfl) T.m_check_wave T.F_check_wave.kp T.b_check_wave .nil pass0 (pa_cons (pv 1) pa_nil)))
      (pss_cons (ps_if (pt_cmpR (op_neD hr.units) (pe_ix ix_tup (pv 0) pe_int (fun _ _ => rfl)) (pe_ix ix_tup (pv 1) pe_int (fun _ _ => rfl)) (nomark _))
        (pss_one (ps_ret (pe_tup (pa_cons (pe_glob (v := V.str (Str.ofString "middle")) (by rfl) T.g_MIDDLE.choose_spec ⟨_, rfl⟩) pa_nil))))
        pss_nil)
      (pss_cons (ps_for PassesOwn.never rfl (pi_range2 (by rfl) T.z_range (pa_cons pe_int (pa_cons (pe_op op_add (pe_callB (call_max2 rfl) (by rfl) T.z_max (by decide +kernel) (pa_cons (pe_callB call_len_seq (by rfl) T.z_len PySem.boot_len (pa_cons (pe_ix ix_tup (pv 0) pe_int (fun _ _ => rfl)) pa_nil)) (pa_cons (pe_callB call_len_seq (by rfl) T.z_len PySem.boot_len (pa_cons (pe_ix ix_tup (pv 1) pe_int (fun _ _ => rfl)) pa_nil)) pa_nil))) pe_int) pa_nil))) (pg_name (i := 2) sc_parting.nd rfl (.inl rfl))
        (pss_one (ps_if (pt_cmpR (op_neD hr.units) (pe_call G_length_square (hr.mono (by omega)) (by rfl) T.m_length_square T.F_length_square.kp T.b_length_square .nil pass0 (pa_cons (pe_call G_pair_at (hr.mono (by omega)) (by rfl) T.m_pair_at T.F_pair_at.kp T.b_pair_at .nil pass0 (pa_cons (pv 0) (pa_cons (pv 2) pa_nil))) pa_nil)) (pe_call G_length_square (hr.mono (by omega)) (by rfl) T.m_length_square T.F_length_square.kp T.b_length_square .nil pass0 (pa_cons (pe_call G_pair_at (hr.mono (by omega)) (by rfl) T.m_pair_at T.F_pair_at.kp T.b_pair_at .nil pass0 (pa_cons (pv 1) (pa_cons (pv 2) pa_nil))) pa_nil)) (nomark _))
          (pss_one (ps_ret (pe_tup (pa_cons (pe_glob (v := V.str (Str.ofString "harmonic")) (by rfl) T.g_HARMONIC.choose_spec ⟨_, rfl⟩) (pa_cons (pv 2) pa_nil)))))
          pss_nil)))
      (pss_cons (ps_set (i := 3) sc_parting.nd rfl (.inl rfl) (pe_call G_steps_between (hr.mono (by omega)) (by rfl) T.m_steps_between T.F_steps_between.kp T.b_steps_between .nil pass0 (pa_cons (pv 0) (pa_cons (pv 1) pa_nil))))
      (pss_cons (ps_for PassesOwn.never rfl (pi_cb (by rfl) T.m_combinations (pa_cons (pv 3) (pa_cons pe_int pa_nil))) (pg_tup rfl (pgs_cons (pg_name (i := 4) sc_parting.nd rfl (.inl rfl)) (pgs_cons (pg_name (i := 5) sc_parting.nd rfl (.inl rfl)) pgs_nil)))
        (pss_one (ps_if (pt_not (pt_val (pe_call G_have_one_turn (hr.mono (by omega)) (by rfl) T.m_have_one_turn T.F_have_one_turn.kp T.b_have_one_turn .nil pass0 (pa_cons (pv 4) (pa_cons (pv 5) pa_nil)))))
          (pss_one (ps_ret (pe_tup (pa_cons (pe_glob (v := V.str (Str.ofString "turn")) (by rfl) T.g_TURN.choose_spec ⟨_, rfl⟩) (pa_cons (pe_ix ix_tup (pv 4) pe_int (fun _ _ => rfl)) (pa_cons (pe_ix ix_tup (pv 5) pe_int (fun _ _ => rfl)) pa_nil))))))
          pss_nil)))
      (pss_one (ps_ret pe_non)))))))), ?_⟩)
  obtain ⟨⟨k, L⟩, ⟨k', M⟩⟩ := a
  obtain ⟨⟨hw, hL⟩, ⟨hw', hM⟩⟩ := hp
  dsimp only at hw hL hw' hM
  have l8 : L.length ≤ 8 := hw.1
  have m8 : M.length ≤ 8 := hw'.1
  have up : ∀ {x : Rat}, Rb 1000 x → Rb 9000000 x := fun h => h.mono (by decide)
  refine run_dropD (S := Is .none) (ev_callD (k, L) (ea_cons ev_var ea_nil) hw) ?_
  refine run_dropD (S := Is .none) (ev_callD (k', M) (ea_cons ev_var ea_nil) hw') ?_
  refine run_ifsD (b := !decide (k = k')) (et_test (ev_is (ev_neD (ev_ixT ev_var ev_int) (ev_ixT ev_var ev_int) rfl rfl) (congrArg (fun b => PyData.bool (!b)) (eqv_rt k k')))) (fun z => ?_) fun z => run_skip ?_
  · have hk : ¬ k = k' := fun e => by rw [decide_eq_true e] at z; exact nomatch z
    refine run_reta (ev_tup (ea_cons ev_str ea_nil)) fun d e => ?_
    show d = ptg k k' L M
    unfold ptg
    rw [if_neg hk]
    exact e
  have hk : k = k' := Classical.byContradiction fun n => by rw [decide_eq_false n] at z; exact nomatch z
  have mx : (if ((M.map pD).length : Int) > ((L.map pD).length : Int) then ((M.map pD).length : Int) else ((L.map pD).length : Int)) + 1 = ((max L.length M.length : Nat) : Int) + 1 := by
    rw [List.length_map, List.length_map]
    split <;> omega
  refine run_seq (N1 := fun ρ' => (∀ j, nr (gp L j) = nr (gp M j)) ∧ ∃ o : Option Sl, ρ' = [some (.d (wD k L)), some (.d (wD k' M)), o, none, none, none])
    (run_forR2 (lo := 1) (hi := ((max L.length M.length : Nat) : Int) + 1) (ea_cons ev_int (ea_cons (ev_is (ev_I0 (ev_max2 (ev_lenT (ev_ixT ev_var ev_int)) (ev_lenT (ev_ixT ev_var ev_int))) ev_int) (congrArg PyData.int mx)) ea_nil)) (by omega) (by omega)
      (fun i ρ' => (∀ j, j < i → nr (gp L j) = nr (gp M j)) ∧ ∃ o : Option Sl, ρ' = [some (.d (wD k L)), some (.d (wD k' M)), o, none, none, none]) ⟨fun j h => absurd h (Nat.not_lt_zero _), none, rfl⟩ (fun i ρ' hi hI => ?_) fun ρ' hI => ?_) fun ρ' hI => ?_
  · obtain ⟨hb, o, rfl⟩ := hI
    refine run_ifD (b := !decide (nr (gp L i) = nr (gp M i))) (et_test (ev_is (ev_neD (ev_callD (gp L i) (ea_cons (ev_callD ((k, L), i) (ea_cons ev_var (ea_cons ev_var ea_nil)) trivial) ea_nil) ⟨up (hL i).1, up (hL i).2⟩) (ev_callD (gp M i) (ea_cons (ev_callD ((k', M), i) (ea_cons ev_var (ea_cons ev_var ea_nil)) trivial) ea_nil) ⟨up (hM i).1, up (hM i).2⟩) rfl rfl) (congrArg (fun b => PyData.bool (!b)) (eqv_rt _ _)))) (fun z => ?_) fun z => run_next ?_
    · have hn : ¬ nr (gp L i) = nr (gp M i) := fun e => by rw [decide_eq_true e] at z; exact nomatch z
      refine run_retD (ev_tup (ea_cons ev_str (ea_cons ev_var ea_nil))) ?_
      show _ = ptg k k' L M
      have e : hbad L M = some i := by
        unfold hbad
        rw [List.find?_range_eq_some]
        exact ⟨decide_eq_true hn, List.mem_range.mpr (by omega), fun j hj => by rw [decide_eq_false (fun z => z (hb j hj))]; rfl⟩
      unfold ptg
      rw [if_pos hk, e]
      rfl
    · have hn : nr (gp L i) = nr (gp M i) := Classical.byContradiction fun n => by rw [decide_eq_false n] at z; exact nomatch z
      refine ⟨fun j hj => ?_, _, rfl⟩
      rcases Nat.lt_or_ge j i with c | c
      · exact hb j c
      · rw [show j = i by omega]; exact hn
  · obtain ⟨hb, o, e⟩ := hI
    refine ⟨fun j => ?_, o, e⟩
    rcases Nat.lt_or_ge j (max L.length M.length) with c | c
    · exact hb j (by omega)
    · rw [gp_ge (by omega), gp_ge (by omega)]
  obtain ⟨hb, o, rfl⟩ := hI
  have zok := zs_ok hb
  have zlen : ∀ z ∈ zsL L M, 1 ≤ z.1 ∧ z.1 ≤ 8 ∧ Ub 20000 z.2 := fun z hz => by
    obtain ⟨h1, h2⟩ := zok z hz
    obtain ⟨i, hi, rfl⟩ := List.mem_map.mp hz
    have hi' := mem_harm.mp hi
    have il : i < L.length := by
      rcases Nat.lt_or_ge i L.length with c | c
      · exact c
      · exact absurd (gp_ge c) hi'
    have sb := stp_rb (n := 1000) (m := 1000) hi' (hL i) (hM i)
    exact ⟨h1, by dsimp only; omega, (ub_of h2 sb.1 sb.2).mono (by decide)⟩
  have z40 : ((zsL L M).map stD).length ≤ 40 := by
    have := List.length_filter_le (fun i => decide (L.getD i (0, 0) ≠ (0, 0))) (List.range L.length)
    rw [List.length_range] at this
    rw [List.length_map]
    unfold zsL harm
    rw [List.length_map]
    omega
  refine run_setL (el_callXD ((k, L), (k', M)) (er_d ev_var (er_d ev_var er_nil)) ⟨hw, hL, hM⟩) fun ds e => ?_
  cases (show ds = _ from e)
  refine run_ro (i := 3) (ds := (zsL L M).map stD) rfl ?_
  have hbn := hbad_none.mpr hb
  refine run_seq (N1 := fun ρ' => tbad (zsL L M) = none) (run_forB (i0 := 3) (ds := (zsL L M).map stD) rfl ev_int (fun j ρ' => (∀ i, i < j → ∀ ks, plc (zsL L M).length 2 i = some ks → Sm (stpAt (zsL L M) (ks.getD 0 0)) (stpAt (zsL L M) (ks.getD 1 0))) ∧ ∃ o2 o4 o5 : Option Sl, ρ' = [some (.d (wD k L)), some (.d (wD k' M)), o2, some (.ro ((zsL L M).map stD)), o4, o5]) ⟨fun i h => absurd h (Nat.not_lt_zero _), o, none, none, rfl⟩ (fun j ks ρ' hks hI => ?_) fun ρ' hI => ?_) fun ρ' hI => ?_
  · obtain ⟨hg, o2, o4, o5, rfl⟩ := hI
    rw [List.length_map] at hks
    have hj := plc_lt (.inl rfl) hks
    obtain ⟨x, y, rfl, hxy, hy⟩ : ∃ x y, ks = [x, y] ∧ x < y ∧ y < (zsL L M).length := by
      rcases (plc_inc (.inl rfl) j ks hks).1 with ⟨_, h⟩ | ⟨h, _⟩
      · obtain ⟨x, y, e, h1, h2⟩ := h
        exact ⟨x, y, e, h1, h2⟩
      · exact absurd h (by decide)
    have ex : stpAt (zsL L M) x ∈ zsL L M := by unfold stpAt; rw [List.getD_eq_getElem?_getD, List.getElem?_eq_getElem (by omega)]; exact List.getElem_mem _
    have ey : stpAt (zsL L M) y ∈ zsL L M := by unfold stpAt; rw [List.getD_eq_getElem?_getD, List.getElem?_eq_getElem hy]; exact List.getElem_mem _
    have ga : ∀ i, i < (zsL L M).length → ((zsL L M).map stD).getD i .none = stD (stpAt (zsL L M) i) := fun i hi => by
      unfold stpAt
      rw [List.getD_eq_getElem?_getD, List.getD_eq_getElem?_getD, List.getElem?_map, List.getElem?_eq_getElem hi]
      rfl
    have ea : atD ((zsL L M).map stD) [x, y] = [stD (stpAt (zsL L M) x), stD (stpAt (zsL L M) y)] := by
      show [((zsL L M).map stD).getD x .none, ((zsL L M).map stD).getD y .none] = _
      rw [ga x (by omega), ga y hy]
    rw [ea]
    refine ⟨_, tg_tup (tgs_cons tg_name (tgs_cons tg_name tgs_nil)), ?_⟩
    refine run_ifD (b := !decide (Sm (stpAt (zsL L M) x) (stpAt (zsL L M) y))) (et_not (et_B (ev_callD (stpAt (zsL L M) x, stpAt (zsL L M) y) (ea_cons ev_var (ea_cons ev_var ea_nil)) ⟨zlen _ ex, zlen _ ey⟩))) (fun z => ?_) fun z => run_next ?_
    · have hn : ¬ Sm (stpAt (zsL L M) x) (stpAt (zsL L M) y) := fun e => by rw [decide_eq_true e] at z; exact nomatch z
      refine run_retD (ev_tup (ea_cons ev_str (ea_cons (ev_ixT ev_var ev_int) (ea_cons (ev_ixT ev_var ev_int) ea_nil)))) ?_
      show _ = ptg k k' L M
      have e : tbad (zsL L M) = some [x, y] := find_CL hks (by show (!decide (Sm (stpAt (zsL L M) x) (stpAt (zsL L M) y))) = true; rw [decide_eq_false hn]; rfl) (fun i hi ks' h' => by rw [decide_eq_true (hg i hi ks' h')]; rfl) hj
      unfold ptg
      rw [if_pos hk, hbn]
      dsimp only
      rw [e]
      rfl
    · have hn : Sm (stpAt (zsL L M) x) (stpAt (zsL L M) y) := Classical.byContradiction fun n => by rw [decide_eq_false n] at z; exact nomatch z
      refine ⟨fun i hi ks' h' => ?_, _, _, _, rfl⟩
      rcases Nat.lt_or_ge i j with c | c
      · exact hg i c ks' h'
      · rw [show i = j by omega, hks] at h'
        cases h'
        exact hn
  · obtain ⟨hg, _⟩ := hI
    rw [List.length_map] at hg
    exact find_CLn fun i hi ks' h' => by rw [decide_eq_true (hg i hi ks' h')]; rfl
  · refine run_retD ev_non ?_
    show _ = ptg k k' L M
    unfold ptg
    rw [if_pos hk, hbn]
    dsimp only
    rw [hI]
theorem ok_are_alike (T : Tx K mg) : FnOk P w K mg base CX0 44 T.f_are_alike T.fd_are_alike ["wave", "other"] (spP K (fun a : (Rat × List Pr) × Rat × List Pr => [wD a.1.1 a.1.2, wD a.2.1 a.2.2]) (fun a => (Wv a.1.2 ∧ Sz 1000 a.1.2) ∧ (Wv a.2.2 ∧ Sz 1000 a.2.2)) fun a => Is (.bool (alB a.1.1 a.2.1 a.1.2 a.2.2))) := by
  have G_parting := ok_parting (P := P) (w := w) (base := base) T
  refine fnP T.F_are_alike sc_are_alike (fun _ => rfl) (fun cdv A outer s H E a hr hp => ⟨_, (pss_one (ps_ret (pe_cmpR op_isN (pe_call G_parting (hr.mono (by omega)) (by rfl) T.m_parting T.F_parting.kp T.b_parting .nil pass0 (pa_cons (pv 0) (pa_cons (pv 1) pa_nil))) pe_non (nomark _)))), ?_⟩)
  exact run_retD (ev_is (ev_isNT (ev_callD a (ea_cons ev_var (ea_cons ev_var ea_nil)) hp) (ptg_or _ _ _ _)) (congrArg PyData.bool (ptg_none _ _ _ _))) rfl
theorem gH_eq {L : List Pr} (h : Wv L) : (gH L = 0 ↔ harm L = []) ∧ gH L ≤ 8 := by
  have key : ∀ (l : List Nat) (g : Nat), (∀ x ∈ l, 1 ≤ x ∧ x ≤ 8) → g ≤ 8 → (l.foldl Nat.gcd g = 0 ↔ (g = 0 ∧ l = [])) ∧ l.foldl Nat.gcd g ≤ 8 := by
    intro l
    induction l with
    | nil => intro g _ hg; exact ⟨by simp, hg⟩
    | cons a l ih =>
      intro g hl hg
      have ha := hl a List.mem_cons_self
      have g0 : 0 < Nat.gcd g a := Nat.gcd_pos_of_pos_right _ (by omega)
      have gl : Nat.gcd g a ≤ 8 := Nat.le_trans (Nat.le_of_dvd (by omega) (Nat.gcd_dvd_right g a)) ha.2
      have := ih (Nat.gcd g a) (fun x hx => hl x (List.mem_cons_of_mem _ hx)) gl
      refine ⟨?_, this.2⟩
      show List.foldl Nat.gcd (Nat.gcd g a) l = 0 ↔ _
      rw [this.1]
      constructor
      · intro z; omega
      · intro z; cases z.2
  have hb : ∀ x ∈ (harm L).map (fun i => 1 + i), 1 ≤ x ∧ x ≤ 8 := fun x hx => by
    obtain ⟨i, hi, rfl⟩ := List.mem_map.mp hx
    have il : i < L.length := by
      rcases Nat.lt_or_ge i L.length with c | c
      · exact c
      · exact absurd (gp_ge c) (mem_harm.mp hi)
    have := h.1
    omega
  have := key _ 0 hb (by decide)
  refine ⟨?_, this.2⟩
  show List.foldl Nat.gcd 0 _ = 0 ↔ _
  rw [this.1]
  simp
theorem gH_take {L : List Pr} (h : Wv L) (i : Nat) : (((harm L).map fun i => 1 + i).take i).foldl Nat.gcd 0 ≤ 8 := by
  have key : ∀ (l : List Nat) (g : Nat), (∀ x ∈ l, 1 ≤ x ∧ x ≤ 8) → g ≤ 8 → l.foldl Nat.gcd g ≤ 8 := by
    intro l
    induction l with
    | nil => intro g _ hg; exact hg
    | cons a l ih =>
      intro g hl hg
      have ha := hl a List.mem_cons_self
      exact ih (Nat.gcd g a) (fun x hx => hl x (List.mem_cons_of_mem _ hx)) (Nat.le_trans (Nat.le_of_dvd (by omega) (Nat.gcd_dvd_right g a)) ha.2)
  refine key _ 0 (fun x hx => ?_) (by decide)
  obtain ⟨j, hj, rfl⟩ := List.mem_map.mp (List.mem_of_mem_take hx)
  have il : j < L.length := by
    rcases Nat.lt_or_ge j L.length with c | c
    · exact c
    · exact absurd (gp_ge c) (mem_harm.mp hj)
  have := h.1
  omega
theorem ok_carrying_turns (T : Tx K mg) (TB : LamX.TabB base mg c Ptb) (hcd : T.fd_in_order.code = .ref c) (hP : tabOf K = some Ptb) : FnOk P w K mg base CX0 44 T.f_carrying_turns T.fd_carrying_turns ["wave", "other"] (spP K (fun a : Rat × List Pr => [wD a.1 a.2, wD a.1 a.2]) (fun a => Wv a.2 ∧ Sz 1000 a.2) fun a => Is (if gH a.2 = 0 then .none else .tuple ((uns (gH a.2)).map tH))) := by
  have G_parting := ok_parting (P := P) (w := w) (base := base) T
  have G_steps_between := ok_steps_between (P := P) (w := w) (base := base) T
  have G_shared_step := ok_shared_step (P := P) (w := w) (base := base) T
  have G_turns_with_power := ok_turns_with_power (P := P) (w := w) (base := base) T TB hcd hP
  refine fnP T.F_carrying_turns sc_carrying_turns (fun _ => rfl) (fun cdv A outer s H E a hr hp => ⟨_, (pss_cons (ps_if (pt_cmpR op_notN (pe_call G_parting (hr.mono (by omega)) (by rfl) T.m_parting T.F_parting.kp T.b_parting .nil pass0 (pa_cons (pv 0) (pa_cons (pv 1) pa_nil))) pe_non (nomark _))
        (pss_one (ps_ret (pe_tup pa_nil)))
        pss_nil)
      (pss_cons (ps_set (i := 2) sc_carrying_turns.nd rfl (.inl rfl) (pe_call G_steps_between (hr.mono (by omega)) (by rfl) T.m_steps_between T.F_steps_between.kp T.b_steps_between .nil pass0 (pa_cons (pv 0) (pa_cons (pv 1) pa_nil))))
      (pss_cons (ps_if (pt_cmpR (op_eqD hr.units) (pe_callB call_len_seq (by rfl) T.z_len PySem.boot_len (pa_cons (pv 2) pa_nil)) pe_int (nomark _))
        (pss_one (ps_ret pe_non))
        pss_nil)
      (pss_cons (ps_set (i := 3) sc_carrying_turns.nd rfl (.inl rfl) (pe_tup (pa_cons pe_int (pa_cons (pe_glob (v := V.ref T.a_EAST) (by rfl) T.g_EAST rfl) pa_nil))))
      (pss_cons (ps_for PassesOwn.never rfl (pi_list (pv 2)) (pg_name (i := 4) sc_carrying_turns.nd rfl (.inl rfl))
        (pss_one (ps_set (i := 3) sc_carrying_turns.nd rfl (.inl rfl) (pe_call G_shared_step (hr.mono (by omega)) (by rfl) T.m_shared_step T.F_shared_step.kp T.b_shared_step .nil pass0 (pa_cons (pv 3) (pa_cons (pv 4) pa_nil))))))
      (pss_one (ps_ret (pe_call G_turns_with_power (hr.mono (by omega)) (by rfl) T.m_turns_with_power T.F_turns_with_power.kp T.b_turns_with_power .nil pass0 (pa_cons (pe_ix ix_tup (pv 3) pe_int (fun _ _ => rfl)) (pa_cons (pe_ix ix_tup (pv 3) pe_int (fun _ _ => rfl)) pa_nil)))))))))), ?_⟩)
  obtain ⟨k, L⟩ := a
  obtain ⟨hw, hL⟩ := hp
  dsimp only at hw hL
  obtain ⟨g0, g8⟩ := gH_eq hw
  have l8 := hw.1
  have hl8 : (harm L).length ≤ 8 := by
    have := List.length_filter_le (fun i => decide (L.getD i (0, 0) ≠ (0, 0))) (List.range L.length)
    rw [List.length_range] at this
    unfold harm
    omega
  refine run_ifsD (b := false) (et_test (ev_is (ev_notNT (ev_callD ((k, L), (k, L)) (ea_cons ev_var (ea_cons ev_var ea_nil)) ⟨⟨hw, hL⟩, hw, hL⟩) (ptg_or _ _ _ _)) (by dsimp only; rw [ptg_self]; rfl))) (fun z => nomatch z) fun _ => run_skip ?_
  have eo : tnD Pt.one = pD c1 := by kernel_rfl
  have zs : (zsL L L).map stD = (harm L).map fun i : Nat => PyData.tuple [.int ((1 + i : Nat) : Int), tnD Pt.one] := by
    rw [zs_self, List.map_map, eo]
    rfl
  refine run_setL (el_callXD ((k, L), (k, L)) (er_d ev_var (er_d ev_var er_nil)) ⟨hw, hL, hL⟩) fun ds e => ?_
  have e : ds = _ := e
  rw [zs] at e
  subst e
  refine run_ifsD (b := decide (gH L = 0)) (et_test (ev_is (ev_eqD (ev_lenL (.inl rfl)) ev_int rfl rfl) (congrArg PyData.bool ?_))) (fun z => ?_) fun z => run_skip ?_
  · show ((((((harm L).map fun i : Nat => PyData.tuple [.int ((1 + i : Nat) : Int), tnD Pt.one]).length : Nat) : Int)) == 0) = decide (gH L = 0)
    rw [List.length_map]
    by_cases hz : gH L = 0
    · rw [decide_eq_true hz, g0.mp hz]
      rfl
    · rw [decide_eq_false hz]
      have : (harm L).length ≠ 0 := fun c => hz (g0.mpr (List.length_eq_zero_iff.mp c))
      exact beq_eq_false_iff_ne.mpr (by omega)
  · refine run_reta ev_non fun d e => ?_
    rw [if_pos (of_decide_eq_true z)]
    exact e
  have gn : ¬ gH L = 0 := of_decide_eq_false z
  refine run_setD (d := .tuple [.int 0, tnD Pt.one]) (ev_tup (ea_cons ev_int (ea_cons (ev_is (ev_k T.d_EAST) tn_one.symm) ea_nil))) ?_
  refine run_ro (i := 2) (ds := (harm L).map fun i : Nat => PyData.tuple [.int ((1 + i : Nat) : Int), tnD Pt.one]) rfl ?_
  refine run_seq (N1 := fun ρ' => ∃ o4 : Option Sl, ρ' = [some (.d (wD k L)), some (.d (wD k L)), some (.ro ((harm L).map fun i : Nat => PyData.tuple [.int ((1 + i : Nat) : Int), tnD Pt.one])), some (.d (.tuple [.int (gH L : Int), tnD Pt.one])), o4])
    (run_forL (i := 2) rfl (fun i ρ' => ∃ o4 : Option Sl, ρ' = [some (.d (wD k L)), some (.d (wD k L)), some (.ro ((harm L).map fun i : Nat => PyData.tuple [.int ((1 + i : Nat) : Int), tnD Pt.one])), some (.d (.tuple [.int (((((harm L).map fun i => 1 + i).take i).foldl Nat.gcd 0 : Nat) : Int), tnD Pt.one])), o4]) ⟨none, rfl⟩ (fun i d ρ' hd hI => ?_) fun ρ' hI => ?_) fun ρ' hI => ?_
  · obtain ⟨o4, rfl⟩ := hI
    obtain ⟨h, eh, rfl⟩ := map_at hd
    have il : h < L.length := by
      rcases Nat.lt_or_ge h L.length with c | c
      · exact c
      · exact absurd (gp_ge c) (mem_harm.mp (List.mem_of_getElem? eh))
    refine ⟨_, tg_name, run_set (ev_callD ((((harm L).map fun i => 1 + i).take i).foldl Nat.gcd 0, 1 + h) (ea_cons ev_var (ea_cons ev_var ea_nil)) ⟨gH_take hw i, by dsimp only; omega⟩) fun d e => ?_⟩
    cases (show d = _ from e)
    refine ⟨some (.d (.tuple [.int ((1 + h : Nat) : Int), tnD Pt.one])), ?_⟩
    rw [List.take_add_one, List.getElem?_map, eh, List.foldl_append]
    rfl
  · obtain ⟨o4, e⟩ := hI
    rw [List.length_map, ← List.length_map (f := fun i => 1 + i), List.take_length] at e
    exact ⟨o4, e⟩
  obtain ⟨o4, rfl⟩ := hI
  refine run_retD (ev_callD (gH L) (ea_cons (ev_ixT ev_var ev_int) (ea_cons (ev_ixT ev_var ev_int) ea_nil)) ⟨by omega, g8⟩) ?_
  rw [if_neg gn]
  rfl
end
end My
set_option Elab.async false
set_option linter.all false
set_option maxRecDepth 100000
set_option maxHeartbeats 4000000
namespace My
open PySem PySem.Spec PyProof.Rows L2 Vd Mt
section
variable {P : Program} {w : World} {K : PySem.W.Frag} {mg : Str → Option Value} {base : Heap} {c Ptb : Addr} [Sees P base]
theorem ok_are_mirror_alike (T : Tx K mg) : FnOk P w K mg base CX0 45 T.f_are_mirror_alike T.fd_are_mirror_alike ["wave", "other"] (spP K (fun a : (Rat × List Pr) × Rat × List Pr => [wD a.1.1 a.1.2, wD a.2.1 a.2.2]) (fun a => (Wv a.1.2 ∧ Sz 1000 a.1.2) ∧ (Wv a.2.2 ∧ Sz 1000 a.2.2)) fun a => Is (.bool (alB a.1.1 a.2.1 (mir a.1.2) a.2.2))) := by
  have G_check_wave := ok_check_wave (P := P) (w := w) (base := base) T
  have G_are_alike := ok_are_alike (P := P) (w := w) (base := base) T
  have G_mirrored := ok_mirrored (P := P) (w := w) (base := base) T
  refine fnP T.F_are_mirror_alike sc_are_mirror_alike (fun _ => rfl) (fun cdv A outer s H E a hr hp => ⟨_, (pss_cons (ps_expr (pe_call G_check_wave (hr.mono (by omega)) (by rfl) T.m_check_wave T.F_check_wave.kp T.b_check_wave .nil pass0 (pa_cons (pv 0) pa_nil)))
      (pss_cons (ps_expr (pe_call G_check_wave (hr.mono (by omega)) (by rfl) T.m_check_wave T.F_check_wave.kp T.b_check_wave .nil pass0 (pa_cons (pv 1) pa_nil)))
      (pss_one (ps_ret (pe_call G_are_alike (hr.mono (by omega)) (by rfl) T.m_are_alike T.F_are_alike.kp T.b_are_alike .nil pass0 (pa_cons (pe_call G_mirrored (hr.mono (by omega)) (by rfl) T.m_mirrored T.F_mirrored.kp T.b_mirrored .nil pass0 (pa_cons (pv 0) pa_nil)) (pa_cons (pv 1) pa_nil))))))), ?_⟩)
  obtain ⟨⟨k, L⟩, ⟨k', M⟩⟩ := a
  obtain ⟨⟨hw, hL⟩, ⟨hw', hM⟩⟩ := hp
  dsimp only at hw hL hw' hM
  refine run_dropD (S := Is .none) (ev_callD (k, L) (ea_cons ev_var ea_nil) hw) ?_
  refine run_dropD (S := Is .none) (ev_callD (k', M) (ea_cons ev_var ea_nil) hw') ?_
  exact run_retD (ev_callD ((k, mir L), (k', M)) (ea_cons (ev_callD (k, L) (ea_cons ev_var ea_nil) hw) (ea_cons ev_var ea_nil)) ⟨⟨mir_wv hw, mir_sz hL⟩, hw', hM⟩) rfl
theorem ok_has_axis (T : Tx K mg) : FnOk P w K mg base CX0 46 T.f_has_axis T.fd_has_axis ["wave"] (spP K (fun a : Rat × List Pr => [wD a.1 a.2]) (fun a => Wv a.2 ∧ Sz 1000 a.2) fun a => Is (.bool (alB a.1 a.1 (mir a.2) a.2))) := by
  have G_are_mirror_alike := ok_are_mirror_alike (P := P) (w := w) (base := base) T
  refine fnP T.F_has_axis sc_has_axis (fun _ => rfl) (fun cdv A outer s H E a hr hp => ⟨_, (pss_one (ps_ret (pe_call G_are_mirror_alike (hr.mono (by omega)) (by rfl) T.m_are_mirror_alike T.F_are_mirror_alike.kp T.b_are_mirror_alike .nil pass0 (pa_cons (pv 0) (pa_cons (pv 0) pa_nil))))), ?_⟩)
  exact run_retD (ev_callD (a, a) (ea_cons ev_var (ea_cons ev_var ea_nil)) ⟨hp, hp⟩) rfl
end
end My
set_option Elab.async false
set_option linter.all false
set_option maxRecDepth 100000
set_option maxHeartbeats 4000000
namespace My
open PySem PySem.Spec PyProof.Rows L2 Vd Mt
section
variable {P : Program} {w : World} {K : PySem.W.Frag} {mg : Str → Option Value} {base : Heap} {c Ptb : Addr} [Sees P base]
theorem ok_l_dip (T : Tx K mg) : FnOk P w K mg base CX0 1 T.f_l_dip T.fd_l_dip ["_law_tap_here", "_law_size"] (spW K (fun a : Int => [.int a]) (fun a => 0 < a ∧ a < 1000000000) fun a => IntP fun n => 0 ≤ n ∧ n < a) := by
  refine fnW T.F_l_dip sc_l_dip (fun _ => rfl) (fun cdv A outer s H E a wa hr hp => ⟨_, (pss_cons (ps_if (pt_cmpR op_gt (pe_ix ix_list (pv 0) pe_int (fun _ _ => rfl)) pe_int (nomark _))
        (pss_cons (ps_asg (pe_callB call_divmodW (by rfl) T.z_divmod (by decide +kernel) (pa_cons (pe_ix ix_list (pv 0) pe_int (fun _ _ => rfl)) (pa_cons (pv 1) pa_nil))) (pg_tup rfl (pgs_cons (pg_sub (pv 0) pe_int set_list) (pgs_cons (pg_name (i := 2) sc_l_dip.nd rfl (.inl rfl)) pgs_nil))))
        (pss_one (ps_ret (pv 2))))
        pss_nil)
      (pss_cons (ps_asg (pe_op op_add (pe_ix ix_list (pv 0) pe_int (fun _ _ => rfl)) pe_int) (pg_sub (pv 0) pe_int set_list))
      (pss_cons (ps_set (i := 3) sc_l_dip.nd rfl (.inl rfl) (pe_op op_mod (pe_callTy call_int1 (by rfl) T.z_int (by decide +kernel) (pa_cons (pe_op op_add (pe_op op_add (pe_op op_mul (pe_ix ix_list (pv 0) pe_int (fun _ _ => rfl)) pe_int) (pe_op op_mul pe_int (pe_ix ix_list (pv 0) pe_int (fun _ _ => rfl)))) pe_int) pa_nil)) pe_int))
      (pss_cons (ps_asg (pe_op op_mod (pe_callTy call_int1 (by rfl) T.z_int (by decide +kernel) (pa_cons (pe_op op_add (pe_op op_mul (pv 3) (pe_op op_add (pe_op op_mod (pe_callTy call_int1 (by rfl) T.z_int (by decide +kernel) (pa_cons (pv 3) pa_nil)) pe_int) pe_int)) (pe_op op_mul pe_int (pe_ix ix_list (pv 0) pe_int (fun _ _ => rfl)))) pa_nil)) pe_int) (pg_sub (pv 0) pe_int set_list))
      (pss_one (ps_ret (pe_op op_mod (pe_callTy call_int1 (by rfl) T.z_int (by decide +kernel) (pa_cons (pe_op op_fdivW (pe_ix ix_list (pv 0) pe_int (fun _ _ => rfl)) pe_int) pa_nil)) (pv 1)))))))), ?_⟩)
  have z0 : (0 : Int) = 0 ∨ (0 : Int) = 1 ∨ (0 : Int) = 2 := .inl rfl
  have z1 : (1 : Int) = 0 ∨ (1 : Int) = 1 ∨ (1 : Int) = 2 := .inr (.inl rfl)
  have z2 : (2 : Int) = 0 ∨ (2 : Int) = 1 ∨ (2 : Int) = 2 := .inr (.inr rfl)
  refine run_ifs (Sc := fun _ => True) (et_testP ((ev_B0P (ev_wget rfl z0) (ev_asP ev_int (P := fun _ => True) trivial)).mono fun d ⟨i, j, _, _, e⟩ => ⟨_, e, trivial⟩)) (fun _ => ?_) fun _ => ?_
  · refine run_seq2 (run_asg (S := fun d => ∃ x : Int, d = .tuple [.int (x / a), .int (x % a)]) (ev_cb (ea_consP (ev_wget rfl z0) (ea_cons ev_var ea_nil)) fun ds ⟨d, ds', e1, ⟨x, e2, _⟩, e3⟩ => ?_) fun d ⟨x, e⟩ => ?_)
    · cases (show ds' = _ from e3)
      rw [e1, e2]
      exact fun vs H k t Q q => rd_divmod (by omega) vs H k t Q fun v d H' g s t => q v d H' g ⟨x, s⟩ t
    · subst e
      exact ⟨_, tg_tup (tgs_cons (tg_wset rfl z0) (tgs_cons tg_name tgs_nil)), run_reta ev_var fun d e => ⟨_, e, Int.emod_nonneg _ (by omega), Int.emod_lt_of_pos _ hp.1⟩⟩
  refine run_skip (run_asg (ev_I0P (ev_wget rfl z2) (ev_asP ev_int (P := fun _ => True) trivial)) fun d ⟨i, e, _⟩ => ?_)
  subst e
  refine ⟨_, tg_wset rfl z2, ?_⟩
  refine run_sets (S := IntP fun n => 0 ≤ n ∧ n < 2147483629) ((ev_IP (ev_int1P (ev_I0P (ev_I0P (ev_IP (ev_wget rfl z1) (ev_asP ev_int (P := fun i => i = 69621) rfl) fun i j _ e => ?_) (ev_IP (ev_asP ev_int (P := fun i => i = 50021) rfl) (ev_wget rfl z2) fun i j e _ => ?_)) (ev_asP ev_int (P := fun _ => True) trivial))) (ev_asP ev_int (P := fun i => i = 2147483629) rfl) fun i j _ e => ?_).mono fun d ⟨i, e, x, y, _, hy, hi⟩ => ⟨i, e, ?_⟩) fun d ⟨lap, e, hl⟩ => ?_
  · rw [e]; exact .inr ⟨by decide, by decide⟩
  · rw [e]; exact .inl ⟨by decide, by decide⟩
  · rw [e]; decide
  · rw [hi, hy]; exact ⟨Int.emod_nonneg _ (by decide), Int.emod_lt_of_pos _ (by decide)⟩
  subst e
  have hm : ∀ x : Int, CMul lap x := fun x => .inl ⟨by have := hl.1; omega, by have := hl.2; omega⟩
  refine run_asg (S := IntP fun _ => True) ((ev_IP (ev_int1P (ev_I0P (ev_asP (ev_I ev_var (ev_I0 (ev_I (ev_int1 ev_var) ev_int (by show (0 : Int) < _; decide)) ev_int) (hm _)) (P := fun _ => True) trivial) (ev_IP (ev_asP ev_int (P := fun i => i = 31) rfl) (ev_wget rfl z2) fun i j e _ => by rw [e]; exact .inl ⟨by decide, by decide⟩))) (ev_asP ev_int (P := fun i => i = 2147483629) rfl) fun i j _ e => by rw [e]; decide).mono fun d ⟨i, e, _⟩ => ⟨i, e, trivial⟩) fun d ⟨k, e, _⟩ => ?_
  subst e
  refine ⟨_, tg_wset rfl z1, ?_⟩
  refine run_ret (ev_IP (ev_int1P (ev_IP (ev_wget rfl z1) (ev_asP ev_int (P := fun i => i = 109) rfl) fun i j _ e => ?_)) (ev_asP ev_var (P := fun i => i = a) rfl) fun i j _ e => ?_) fun d ⟨i, e, x, y, _, hy, hi⟩ => ⟨i, e, ?_⟩
  · rw [e]; exact fdiv_ok (n := 8) (by decide) (by unfold bd; decide)
  · rw [e]; exact hp.1
  · rw [hi, hy]; exact ⟨Int.emod_nonneg _ (by omega), Int.emod_lt_of_pos _ hp.1⟩
theorem ok_l_gcd (T : Tx K mg) : FnOk P w K mg base CX0 1 T.f_l_gcd T.fd_l_gcd ["_law_one", "_law_two"] (spP K (fun a : Int × Int => [.int a.1, .int a.2]) (fun _ => True) fun a => Is (.int (gc a.1 a.2))) := by
  refine fnP T.F_l_gcd sc_l_gcd (fun _ => rfl) (fun cdv A outer s H E a hr _ => ⟨_, (pss_cons (ps_par (i := 0) (j := 1) (by rfl) sc_l_gcd.nd rfl rfl (by decide) rfl rfl (pa_cons (pe_callB call_abs (by rfl) T.z_abs (by decide +kernel) (pa_cons (pv 0) pa_nil)) (pa_cons (pe_callB call_abs (by rfl) T.z_abs (by decide +kernel) (pa_cons (pv 1) pa_nil)) pa_nil)) (by rfl))
      (pss_cons (ps_while PassesOwn.never (pt_cmpR op_gt (pv 1) pe_int (nomark _))
        (pss_one (ps_par (i := 0) (j := 1) (by rfl) sc_l_gcd.nd rfl rfl (by decide) rfl rfl (pa_cons (pv 1) (pa_cons (pe_op op_mod (pe_callTy call_int1 (by rfl) T.z_int (by decide +kernel) (pa_cons (pv 0) pa_nil)) (pv 1)) pa_nil)) (by rfl))))
      (pss_one (ps_ret (pv 0))))), ?_⟩)
  obtain ⟨n, m⟩ := a
  have ab : ∀ i : Int, (if i < 0 then -i else i) = ((i.natAbs : Nat) : Int) := fun i => by split <;> omega
  refine run_parD (ea_cons (ev_is (ev_abs ev_var) (congrArg PyData.int (ab n))) (ea_cons (ev_is (ev_abs ev_var) (congrArg PyData.int (ab m))) ea_nil)) ?_
  refine run_seq (N1 := fun ρ' => ρ' = [some (.d (.int (gc n m))), some (.d (.int 0))]) (run_while (fun k ρ' => ∃ x : Nat, ρ' = [some (.d (.int (x : Int))), some (.d (.int (k : Int)))] ∧ Nat.gcd x k = Nat.gcd n.natAbs m.natAbs) m.natAbs ⟨n.natAbs, rfl, rfl⟩ fun k ρ' ⟨x, e, hg⟩ => ?_) fun ρ' e => ?_
  · subst e
    refine ⟨Is (decide ((0 : Int) < (k : Int))), et_test (ev_B0 ev_var ev_int), fun z => ?_, fun z => ?_⟩
    · have k0 : (0 : Int) < (k : Int) := of_decide_eq_true z.symm
      refine run_par1 (d := .int (k : Int)) (e := .int ((x % k : Nat) : Int)) (ea_cons ev_var (ea_cons (ev_is (ev_I (ev_int1 ev_var) ev_var k0) (congrArg PyData.int ?_)) ea_nil)) ⟨x % k, Nat.mod_lt _ (by omega), k, rfl, (gcd_step x k).trans hg⟩
      exact (Int.natCast_emod x k).symm
    · have k0 : k = 0 := by have := of_decide_eq_false z.symm; omega
      subst k0
      rw [Nat.gcd_zero_right] at hg
      show [some (Sl.d (.int (x : Int))), _] = _
      rw [hg]
      rfl
  · subst e
    exact run_retD ev_var rfl
theorem ok_l_opp (T : Tx K mg) : FnOk P w K mg base CX0 1 T.f_l_opp T.fd_l_opp ["_law_one"] (spP K (fun a : Rat => [rt a]) (fun _ => True) fun a => Is (rt (-a))) := by
  refine fnP T.F_l_opp sc_l_opp (fun _ => rfl) (fun cdv A outer s H E a hr hp => ⟨_, (pss_one (ps_ret (pe_tup (pa_cons (pe_op op_sub pe_int (pe_ix ix_tup (pv 0) pe_int (fun _ _ => rfl))) (pa_cons (pe_ix ix_tup (pv 0) pe_int (fun _ _ => rfl)) pa_nil))))), ?_⟩)
  exact run_retD (ev_tup (ea_cons (ev_I0 ev_int (ev_ixT ev_var ev_int)) (ea_cons (ev_ixT ev_var ev_int) ea_nil))) (rt_neg a)
theorem eqv_lnil (ds : List PyData) : PyData.eqv (.list ds) (.list []) = ds.isEmpty := by
  cases ds with
  | nil => rfl
  | cons a b => rfl
theorem trimTo_app (L : List Pr) (p : Pr) : ∀ m, m ≤ L.length → trimTo (L ++ [p]) m = trimTo L m
  | 0, _ => rfl
  | m + 1, h => by
    have g : (L ++ [p]).getD m (0, 0) = L.getD m (0, 0) := by
      rw [List.getD_eq_getElem?_getD, List.getD_eq_getElem?_getD, List.getElem?_append_left (by omega)]
    show (if (L ++ [p]).getD m (0, 0) = (0, 0) then trimTo (L ++ [p]) m else m + 1) = (if L.getD m (0, 0) = (0, 0) then trimTo L m else m + 1)
    rw [g, trimTo_app L p m (by omega)]
theorem trimR_app0 (L : List Pr) : trimR (L ++ [(0, 0)]) = trimR L := by
  unfold trimR
  have a : trimTo (L ++ [(0, 0)]) (L ++ [(0, 0)]).length = trimTo L L.length := by
    rw [List.length_append, List.length_singleton]
    show (if (L ++ [(0, 0)]).getD L.length (0, 0) = (0, 0) then trimTo (L ++ [(0, 0)]) L.length else L.length + 1) = _
    rw [if_pos (by rw [List.getD_eq_getElem?_getD, List.getElem?_append_right (Nat.le_refl _), Nat.sub_self]; rfl), trimTo_app L _ _ (Nat.le_refl _)]
  rw [a, List.take_append_of_le_length (trimTo_le L L.length)]
theorem trimR_app1 (L : List Pr) {p : Pr} (h : p ≠ (0, 0)) : trimR (L ++ [p]) = L ++ [p] := trimR_self fun I l e => by
  have := List.append_inj_right' e rfl
  cases this
  exact h
theorem ok_l_trim (T : Tx K mg) : FnOk P w K mg base CX0 1 T.f_l_trim T.fd_l_trim ["_law_lift", "_law_pairs"] (spG K (fun a : Rat × List Pr => [.d (rt a.1), .l (a.2.map pD)]) (fun a => a.2.length ≤ 1000) fun a => rD (Is (wD a.1 (trimR a.2)))) := by
  refine fnX T.F_l_trim sc_l_trim (fun _ => rfl) (fun cdv A outer s H E a wl hr hp => ⟨_, (pss_cons (ps_set (i := 2) sc_l_trim.nd rfl (.inl rfl) (pe_callTy call_list_of (by rfl) T.z_list (by decide +kernel) (pa_cons (pv 1) pa_nil)))
      (pss_cons (ps_while PassesOwn.never (PW.pt (pw_and (pt_cmpR (op_neD hr.units) (pv 2) (pe_lst pa_nil) (nomark _)) (pw_and1 (pt_cmpR (op_eqD hr.units) (pe_ix ix_list (pv 2) (pe_un un_neg pe_int) (fun _ _ => rfl)) (pe_tup (pa_cons (pe_tup (pa_cons pe_int (pa_cons pe_int pa_nil))) (pa_cons (pe_tup (pa_cons pe_int (pa_cons pe_int pa_nil))) pa_nil))) (nomark _)))))
        (pss_one (ps_expr (pe_bm0 PySem.F.plainAttrs_list PySem.F.slot_list_pop PySem.F.type_list_pop mt_pop (pv 2)))))
      (pss_one (ps_ret (pe_tup (pa_cons (pv 0) (pa_cons (pe_callTy call_tuple_of (by rfl) T.z_tuple (by decide +kernel) (pa_cons (pv 2) pa_nil)) pa_nil))))))), ?_⟩)
  obtain ⟨k, L⟩ := a
  refine run_setLD (ds := L.map pD) (el_listL (.inr rfl)) ?_
  refine run_seq (N1 := fun ρ' => ρ' = [some (.d (rt k)), some (.ro (L.map pD)), some (.own ((trimR L).map pD))]) (run_while (fun m ρ' => ∃ M : List Pr, M.length = m ∧ trimR M = trimR L ∧ ρ' = [some (.d (rt k)), some (.ro (L.map pD)), some (.own (M.map pD))]) L.length ⟨L, rfl, rfl, rfl⟩ fun m ρ' ⟨M, hm, ht, e⟩ => ?_) fun ρ' e => ?_
  · subst e
    rcases List.eq_nil_or_concat M with rfl | ⟨I, l, rfl⟩
    · refine ⟨Is false, et_and (a := false) (b := false) (et_test (ev_is (ev_neVL (.inl rfl) el_nil rfl rfl) rfl)) (fun z => nomatch z), fun z => ?_, fun _ => ?_⟩
      · exact nomatch (show true = false from z)
      · rw [← ht]
        rfl
    · rw [List.concat_eq_append] at *
      have em : (I ++ [l]).map pD = I.map pD ++ [pD l] := by rw [List.map_append]; rfl
      refine ⟨Is (true && decide (l = (0, 0))), et_and (a := true) (et_test (ev_is (ev_neVL (.inl rfl) el_nil (sh_prs _) rfl) (congrArg PyData.bool (by rw [eqv_lnil, em]; cases I.map pD <;> rfl)))) (fun _ => et_test (ev_is (ev_eqD (ev_ixL (.inl rfl) (ev_neg ev_int) (by rw [em]; exact atI_last)) (ev_tup (ea_cons (ev_tup (ea_cons ev_int (ea_cons ev_int ea_nil))) (ea_cons (ev_tup (ea_cons ev_int (ea_cons ev_int ea_nil))) ea_nil))) rfl rfl) (congrArg PyData.bool eqv_pD1))), fun z => ?_, fun z => ?_⟩
      · have z' : l = (0, 0) := by
          have q : (true && decide (l = (0, 0))) = true := z.symm
          rw [Bool.true_and] at q
          exact of_decide_eq_true q
        subst z'
        refine run_pop (ds := (I ++ [(0, 0)]).map pD) rfl (by rw [em]; simp) ?_
        refine ⟨I.length, by rw [← hm, List.length_append]; exact Nat.lt_succ_self _, I, rfl, by rw [← ht, trimR_app0], ?_⟩
        rw [em, List.dropLast_concat]
        rfl
      · have z' : ¬ l = (0, 0) := by
          have q : (true && decide (l = (0, 0))) = false := z.symm
          rw [Bool.true_and] at q
          exact of_decide_eq_false q
        rw [← ht, trimR_app1 I z']
  · subst e
    exact run_retD (ev_tup (ea_cons ev_var (ea_cons (ev_tupOwn (.inl rfl)) ea_nil))) rfl
theorem ok_l_of (T : Tx K mg) : FnOk P w K mg base CX0 2 T.f_l_of T.fd_l_of ["_law_tap_here", "_law_some"] (spW K (fun a : List PyData => [.tuple a]) (fun a => 0 < a.length ∧ a.length ≤ 1000) fun a d => d ∈ a) := by
  have G_l_dip := ok_l_dip (P := P) (w := w) (base := base) T
  refine fnW T.F_l_of sc_l_of (fun _ => rfl) (fun cdv A outer s H E a wa hr hp => ⟨_, (pss_one (ps_ret (pe_ix ix_tup (pv 1) (pe_call G_l_dip (hr.mono (by omega)) (by rfl) T.m_l_dip T.F_l_dip.kp T.b_l_dip .nil pass0 (pa_cons (pv 0) (pa_cons (pe_callB call_len_seq (by rfl) T.z_len PySem.boot_len (pa_cons (pv 1) pa_nil)) pa_nil))) (fun _ _ => rfl)))), ?_⟩)
  refine run_ret (S := fun d => d ∈ a) (ev_ixTP ev_var (ev_callWD ((a.length : Nat) : Int) rfl (ea_cons (ev_lenT ev_var) ea_nil) ⟨by have := hp.1; omega, by have := hp.2; omega⟩) fun n hn => ?_) fun d e => e
  have hl : n.toNat < a.length := by omega
  refine ⟨a[n.toNat], ?_, List.getElem_mem hl⟩
  have z := atI_nat (xs := a) (j := n.toNat) (List.getElem?_eq_getElem hl)
  rw [show ((n.toNat : Nat) : Int) = n by omega] at z
  exact z
theorem ok_l_back (T : Tx K mg) : FnOk P w K mg base CX0 2 T.f_l_back T.fd_l_back ["_law_turn_here"] (spP K (fun a : Pr => [pD a]) (fun _ => True) fun a => Is (pD (cc a))) := by
  have G_l_opp := ok_l_opp (P := P) (w := w) (base := base) T
  refine fnP T.F_l_back sc_l_back (fun _ => rfl) (fun cdv A outer s H E a hr hp => ⟨_, (pss_one (ps_ret (pe_tup (pa_cons (pe_ix ix_tup (pv 0) pe_int (fun _ _ => rfl)) (pa_cons (pe_call G_l_opp (hr.mono (by omega)) (by rfl) T.m_l_opp T.F_l_opp.kp T.b_l_opp .nil pass0 (pa_cons (pe_ix ix_tup (pv 0) pe_int (fun _ _ => rfl)) pa_nil)) pa_nil))))), ?_⟩)
  exact run_retD (ev_tup (ea_cons (ev_ixT ev_var ev_int) (ea_cons (ev_callD a.2 (ea_cons (ev_ixT ev_var ev_int) ea_nil) trivial) ea_nil))) rfl
theorem ok_l_mirror (T : Tx K mg) : FnOk P w K mg base CX0 2 T.f_l_mirror T.fd_l_mirror ["_law_wave"] (spP K (fun a : Rat × List Pr => [wD a.1 a.2]) (fun a => a.2.length ≤ 8) fun a => Is (wD a.1 (mir a.2))) := by
  have G_l_opp := ok_l_opp (P := P) (w := w) (base := base) T
  refine fnP T.F_l_mirror sc_l_mirror (fun _ => rfl) (fun cdv A outer s H E a hr hp => ⟨_, (pss_one (ps_ret (pe_tup (pa_cons (pe_ix ix_tup (pv 0) pe_int (fun _ _ => rfl)) (pa_cons (pe_callTy call_tuple_of (by rfl) T.z_tuple (by decide +kernel) (pa_cons (pe_lc (own := [("_law_pair", 1)]) (g := gName 1) (by rfl) sc_l_mirror.nd (pi_tup (pe_ix ix_tup (pv 0) pe_int (fun _ _ => rfl))) (blkOk_by (own := [("_law_pair", 1)]) (N := N_l_mirror) (sc := defScope s_l_mirror) (by decide +kernel)) (fun _ _ _ _ _ => (pg_name (i := 1) sc_l_mirror.nd rfl (Or.inl rfl))) (fun _ _ _ _ _ => pts_nil) (fun _ _ _ _ _ => (pe_tup (pa_cons (pe_ix (ix_tupK (K := K) rfl) (pv 1) pe_int (fun _ _ => rfl)) (pa_cons (pe_call G_l_opp (hr.mono (by omega)) (by rfl) T.m_l_opp T.F_l_opp.kp T.b_l_opp .nil pass0 (pa_cons (pe_ix (ix_tupK (K := K) rfl) (pv 1) pe_int (fun _ _ => rfl)) pa_nil)) pa_nil))))) pa_nil)) pa_nil))))), ?_⟩)
  obtain ⟨k, L⟩ := a
  dsimp only at hp
  refine run_retD (ev_tup (ea_cons (ev_ixT ev_var ev_int) (ea_cons (ev_tupOf (mir_map L ▸ el_map (fun i _ => pD ((L.getD i (0, 0)).1, -(L.getD i (0, 0)).2)) (ev_ixT ev_var ev_int) (by rw [List.length_map]; omega) fun i d hd => ?_)) ea_nil))) rfl
  rw [List.getElem?_map] at hd
  cases ej : L[i]? with
  | none => rw [ej] at hd; cases hd
  | some pq =>
    rw [ej] at hd
    cases hd
    have eg : L.getD i (0, 0) = pq := by rw [List.getD_eq_getElem?_getD, ej]; rfl
    rw [eg]
    exact ⟨_, tc_name, ev_tup (ea_cons (ev_ixT ev_var ev_int) (ea_cons (ev_callD pq.2 (ea_cons (ev_ixT ev_var ev_int) ea_nil) trivial) ea_nil))⟩
abbrev numD (L : List Pr) (i : Nat) : PyData := .tuple [.int ((1 + i : Nat) : Int), pD (cc (gp L i))]
theorem ok_l_numbers (T : Tx K mg) : FnOk P w K mg base CX0 2 T.f_l_numbers T.fd_l_numbers ["_law_wave"] (spG K (fun a : Rat × List Pr => [.d (wD a.1 a.2)]) (fun a => a.2.length ≤ 8) fun a => rL (Is ((harm a.2).map (numD a.2)))) := by
  have G_l_opp := ok_l_opp (P := P) (w := w) (base := base) T
  refine fnX T.F_l_numbers sc_l_numbers (fun _ => rfl) (fun cdv A outer s H E a wl hr hp => ⟨_, (pss_one (ps_ret (pe_lc (own := [("_law_j", 1), ("_law_pair", 2)]) (g := gTup K 2 (gCons (gName 1) (gCons (gName 2) gNil))) (by rfl) sc_l_numbers.nd (pi_en0 (by rfl) T.z_enumerate (pa_cons (pe_ix ix_tup (pv 0) pe_int (fun _ _ => rfl)) pa_nil)) (blkOk_by (own := [("_law_j", 1), ("_law_pair", 2)]) (N := N_l_numbers) (sc := defScope s_l_numbers) (by decide +kernel)) (fun _ _ _ _ _ => (pg_tup rfl (pgs_cons (pg_name (i := 1) sc_l_numbers.nd rfl (Or.inl rfl)) (pgs_cons (pg_name (i := 2) sc_l_numbers.nd rfl (Or.inl rfl)) pgs_nil)))) (fun _ _ _ _ _ => pts_one (pt_cmpR (op_neDK (K := K) rfl hr.units) (pv 2) (pe_tup (pa_cons (pe_tup (pa_cons pe_int (pa_cons pe_int pa_nil))) (pa_cons (pe_tup (pa_cons pe_int (pa_cons pe_int pa_nil))) pa_nil))) (nomark _))) (fun _ _ _ _ _ => (pe_tup (pa_cons (pe_op op_add (pv 1) pe_int) (pa_cons (pe_tup (pa_cons (pe_ix (ix_tupK (K := K) rfl) (pv 2) pe_int (fun _ _ => rfl)) (pa_cons (pe_call G_l_opp (hr.mono (by omega)) (by rfl) T.m_l_opp T.F_l_opp.kp T.b_l_opp .nil pass0 (pa_cons (pe_ix (ix_tupK (K := K) rfl) (pv 2) pe_int (fun _ _ => rfl)) pa_nil)) pa_nil))) pa_nil))))))), ?_⟩)
  obtain ⟨k, L⟩ := a
  dsimp only at hp
  refine run_retL (EvL.mono (el_compE0 (ds := L.map pD) (fun i => decide (gp L i ≠ (0, 0))) (fun i => numD L i) (ev_ixT ev_var ev_int) (by rw [List.length_map]; omega) fun i d hd => ?_) fun ds e => e) fun ds e => ?_
  · rw [List.getElem?_map] at hd
    cases ej : L[i]? with
    | none => rw [ej] at hd; cases hd
    | some q =>
      rw [ej] at hd
      cases hd
      have eg : gp L i = q := by unfold gp; rw [List.getD_eq_getElem?_getD, ej]; rfl
      refine ⟨_, tc_pair, et_test (ev_is (ev_neD ev_var (ev_tup (ea_cons (ev_tup (ea_cons ev_int (ea_cons ev_int ea_nil))) (ea_cons (ev_tup (ea_cons ev_int (ea_cons ev_int ea_nil))) ea_nil))) rfl rfl) (congrArg PyData.bool ?_)), fun _ => ev_is (ev_tup (ea_cons (ev_I0 ev_var ev_int) (ea_cons (ev_tup (ea_cons (ev_ixT ev_var ev_int) (ea_cons (ev_callD q.2 (ea_cons (ev_ixT ev_var ev_int) ea_nil) trivial) ea_nil))) ea_nil))) ?_⟩
      · rw [eg]
        show (!PyData.eqv (pD q) (.tuple [fr 0 1, fr 0 1])) = _
        rw [eqv_pD1, decide_not]
      · show _ = PyData.tuple [.int ((1 + i : Nat) : Int), pD (cc (gp L i))]
        rw [eg, show (i : Int) + 1 = ((1 + i : Nat) : Int) by omega]
        rfl
  · show ds = _
    rw [show ds = _ from e, List.length_map]
    rfl
theorem ok_l_common (T : Tx K mg) : FnOk P w K mg base CX0 3 T.f_l_common T.fd_l_common ["_law_wave"] (spP K (fun a : Rat × List Pr => [wD a.1 a.2]) (fun a => a.2.length ≤ 8) fun a => Is (.int (gH a.2 : Int))) := by
  have G_l_numbers := ok_l_numbers (P := P) (w := w) (base := base) T
  have G_l_gcd := ok_l_gcd (P := P) (w := w) (base := base) T
  refine fnP T.F_l_common sc_l_common (fun _ => rfl) (fun cdv A outer s H E a hr hp => ⟨_, (pss_cons (ps_set (i := 1) sc_l_common.nd rfl (.inl rfl) pe_int)
      (pss_cons (ps_for PassesOwn.never rfl (pi_list (pe_call G_l_numbers (hr.mono (by omega)) (by rfl) T.m_l_numbers T.F_l_numbers.kp T.b_l_numbers .nil pass0 (pa_cons (pv 0) pa_nil))) (pg_name (i := 2) sc_l_common.nd rfl (.inl rfl))
        (pss_one (ps_set (i := 1) sc_l_common.nd rfl (.inl rfl) (pe_call G_l_gcd (hr.mono (by omega)) (by rfl) T.m_l_gcd T.F_l_gcd.kp T.b_l_gcd .nil pass0 (pa_cons (pv 1) (pa_cons (pe_ix ix_tup (pv 2) pe_int (fun _ _ => rfl)) pa_nil))))))
      (pss_one (ps_ret (pv 1))))), ?_⟩)
  obtain ⟨k, L⟩ := a
  refine run_setD ev_int ?_
  refine run_seq (N1 := fun ρ' => ∃ o2 : Option Sl, ρ' = [some (.d (wD k L)), some (.d (.int (gH L : Int))), o2])
    (run_forN (Ss := Is ((harm L).map (numD L))) (el_callXD (k, L) (er_d ev_var er_nil) hp) (fun _ i ρ' => ∃ o2 : Option Sl, ρ' = [some (.d (wD k L)), some (.d (.int ((((harm L).map fun i => 1 + i).take i).foldl Nat.gcd 0 : Nat))), o2]) (fun _ _ => ⟨none, rfl⟩) (fun ds i d ρ' hs hd hI => ?_) fun ds ρ' hs hI => ?_) fun ρ' hI => ?_
  · cases (show ds = _ from hs)
    obtain ⟨o2, rfl⟩ := hI
    obtain ⟨h, eh, rfl⟩ := map_at hd
    refine ⟨_, tg_name, run_set (ev_callD ((((((harm L).map fun i => 1 + i).take i).foldl Nat.gcd 0 : Nat) : Int), ((1 + h : Nat) : Int)) (ea_cons ev_var (ea_cons (ev_ixT ev_var ev_int) ea_nil)) trivial) fun d e => ?_⟩
    cases (show d = _ from e)
    refine ⟨some (.d (numD L h)), ?_⟩
    rw [List.take_add_one, List.getElem?_map, eh, List.foldl_append]
    show _ = [_, some (Sl.d (.int ((Nat.gcd _ (1 + h) : Nat) : Int))), _]
    simp only [gc, Int.natAbs_natCast]
    rfl
  · cases (show ds = _ from hs)
    obtain ⟨o2, e⟩ := hI
    rw [List.length_map, ← List.length_map (f := fun i => 1 + i), List.take_length] at e
    exact ⟨o2, e⟩
  obtain ⟨o2, rfl⟩ := hI
  exact run_retD ev_var rfl
end
end My
set_option Elab.async false
set_option linter.all false
set_option maxRecDepth 100000
set_option maxHeartbeats 4000000
namespace My
open PySem PySem.Spec PyProof.Rows L2 Vd Mt
section
variable {P : Program} {w : World} {K : PySem.W.Frag} {mg : Str → Option Value} {base : Heap} {c Ptb : Addr} [Sees P base]
theorem ok_l_ratio (T : Tx K mg) : FnOk P w K mg base CX0 34 T.f_l_ratio T.fd_l_ratio ["_law_up", "_law_under"] (spP K (fun a : Int × Int => [.int a.1, .int a.2]) (fun a => 0 < a.2) fun a => Is (frp (red a.1 a.2))) := by
  have G_l_gcd := ok_l_gcd (P := P) (w := w) (base := base) T
  refine fnP T.F_l_ratio sc_l_ratio (fun _ => rfl) (fun cdv A outer s H E a hr hp => ⟨_, (pss_cons (ps_set (i := 2) sc_l_ratio.nd rfl (.inl rfl) (pe_call G_l_gcd (hr.mono (by omega)) (by rfl) T.m_l_gcd T.F_l_gcd.kp T.b_l_gcd .nil pass0 (pa_cons (pv 0) (pa_cons (pv 1) pa_nil))))
      (pss_cons (ps_set (i := 2) sc_l_ratio.nd rfl (.inl rfl) (pe_ifExp (pt_cmpR op_gt (pv 1) pe_int (nomark _)) (pv 2) (pe_op op_sub pe_int (pv 2))))
      (pss_one (ps_ret (pe_tup (pa_cons (pe_op (op_fdivS (P := P) (base := base) hr) (pv 0) (pv 2)) (pa_cons (pe_op (op_fdivS (P := P) (base := base) hr) (pv 1) (pv 2)) pa_nil))))))), ?_⟩)
  obtain ⟨n, m⟩ := a
  dsimp only at hp
  have gp := gc_pos (n := n) hp
  refine run_setD (ev_callD (n, m) (ea_cons ev_var (ea_cons ev_var ea_nil)) trivial) ?_
  refine run_setD (d := .int (gc n m)) (ev_ifD (et_test (ev_B0 ev_var ev_int)) (fun _ => ev_var) fun z => ?_) ?_
  · exact absurd hp (of_decide_eq_false z)
  exact run_retD (ev_tup (ea_cons (ev_I ev_var ev_var gp) (ea_cons (ev_I ev_var ev_var gp) ea_nil))) rfl
theorem div_red {x y : Rat} (h : 0 < y) : 0 < y.num ∧ red (x.num * (y.den : Int)) ((x.den : Int) * y.num) = ((x * y⁻¹).num, ((x * y⁻¹).den : Int)) := by
  obtain ⟨a, b⟩ := inv_parts h
  have c := mul_red x y⁻¹
  have d := den0 y⁻¹
  rw [a, b] at c
  exact ⟨by omega, c⟩
theorem ok_l_div (T : Tx K mg) : FnOk P w K mg base CX0 35 T.f_l_div T.fd_l_div ["_law_one", "_law_two"] (spP K (fun a : Rat × Rat => [rt a.1, rt a.2]) (fun a => 0 < a.2 ∧ Rb 20000000 a.1 ∧ Rb 20000000 a.2) fun a => Is (rt (a.1 * a.2⁻¹))) := by
  have G_l_ratio := ok_l_ratio (P := P) (w := w) (base := base) T
  refine fnP T.F_l_div sc_l_div (fun _ => rfl) (fun cdv A outer s H E a hr hp => ⟨_, (pss_one (ps_ret (pe_call G_l_ratio (hr.mono (by omega)) (by rfl) T.m_l_ratio T.F_l_ratio.kp T.b_l_ratio .nil pass0 (pa_cons (pe_op op_mulX (pe_ix ix_tup (pv 0) pe_int (fun _ _ => rfl)) (pe_ix ix_tup (pv 1) pe_int (fun _ _ => rfl))) (pa_cons (pe_op op_mulX (pe_ix ix_tup (pv 0) pe_int (fun _ _ => rfl)) (pe_ix ix_tup (pv 1) pe_int (fun _ _ => rfl))) pa_nil))))), ?_⟩)
  obtain ⟨x, y⟩ := a
  obtain ⟨y0, hx, hy⟩ := hp
  dsimp only at y0 hx hy
  have h0 := rt_bd hx
  have k0 := rt_bd hy
  obtain ⟨n0, e⟩ := div_red (x := x) y0
  refine run_retD (ev_callD (x.num * (y.den : Int), (x.den : Int) * y.num) (ea_cons (ev_I (ev_ixT ev_var ev_int) (ev_ixT ev_var ev_int) (mul_bd h0.1 k0.2)) (ea_cons (ev_I (ev_ixT ev_var ev_int) (ev_ixT ev_var ev_int) (mul_bd h0.2 k0.1)) ea_nil)) (Int.mul_pos (den0 x) n0)) ?_
  show frp (red _ _) = _
  rw [e]
theorem dot_red (z v : Pr) : red ([z.1.num * v.1.num * ((1 * (z.1.den : Int) * (v.1.den : Int) * (z.2.den : Int) * (v.2.den : Int)) / ((z.1.den : Int) * (v.1.den : Int))), z.2.num * v.2.num * ((1 * (z.1.den : Int) * (v.1.den : Int) * (z.2.den : Int) * (v.2.den : Int)) / ((z.2.den : Int) * (v.2.den : Int)))] : List Int).sum (1 * (z.1.den : Int) * (v.1.den : Int) * (z.2.den : Int) * (v.2.den : Int)) = ((dt z v).num, ((dt z v).den : Int)) := by
  have a := den0 z.1
  have b := den0 v.1
  have c := den0 z.2
  have d := den0 v.2
  have p1 := Int.mul_pos a b
  have p2 := Int.mul_pos c d
  have e0 : 1 * (z.1.den : Int) * (v.1.den : Int) * (z.2.den : Int) * (v.2.den : Int) = ((z.1.den : Int) * (v.1.den : Int)) * ((z.2.den : Int) * (v.2.den : Int)) := by rw [Int.one_mul, Int.mul_assoc (((z.1.den : Int) * (v.1.den : Int)))]
  rw [e0, Int.mul_ediv_cancel_left _ (by omega), Int.mul_ediv_cancel _ (by omega), red_rv (Int.mul_pos p1 p2)]
  have e : rv ([z.1.num * v.1.num * ((z.2.den : Int) * (v.2.den : Int)), z.2.num * v.2.num * ((z.1.den : Int) * (v.1.den : Int))] : List Int).sum (((z.1.den : Int) * (v.1.den : Int)) * ((z.2.den : Int) * (v.2.den : Int))) = dt z v := by
    have q : dt z v = rv (z.1.num * v.1.num) ((z.1.den : Int) * (v.1.den : Int)) + rv (z.2.num * v.2.num) ((z.2.den : Int) * (v.2.den : Int)) := by
      rw [← rv_mul a b, ← rv_mul c d, rv_self, rv_self, rv_self, rv_self]
      rfl
    rw [q, rv_add p1 p2]
    congr 1
    simp only [List.sum_cons, List.sum_nil]
    omega
  rw [e]
theorem ok_l_dot (T : Tx K mg) : FnOk P w K mg base CX0 35 T.f_l_dot T.fd_l_dot ["_law_ones", "_law_twos"] (spP K (fun a : Pr × Pr => [pD a.1, pD a.2]) (fun a => (Rb 8000000 a.1.1 ∧ Rb 8000000 a.1.2) ∧ (Rb 8000000 a.2.1 ∧ Rb 8000000 a.2.2)) fun a => Is (rt (dt a.1 a.2))) := by
  have G_l_ratio := ok_l_ratio (P := P) (w := w) (base := base) T
  refine fnP T.F_l_dot sc_l_dot (fun _ => rfl) (fun cdv A outer s H E a hr hp => ⟨_, (pss_cons (ps_set (i := 2) sc_l_dot.nd rfl (.inr rfl) pe_int)
      (pss_cons (ps_for PassesOwn.never rfl (pi_m (by rfl) T.z_zip (pa_cons (pv 0) (pa_cons (pv 1) pa_nil))) (pg_tup rfl (pgs_cons (pg_name (i := 3) sc_l_dot.nd rfl (.inl rfl)) (pgs_cons (pg_name (i := 4) sc_l_dot.nd rfl (.inl rfl)) pgs_nil)))
        (pss_one (ps_set (i := 2) sc_l_dot.nd rfl (.inr rfl) (pe_op op_mulX (pe_op op_mulX (pv 2) (pe_ix ix_tup (pv 3) pe_int (fun _ _ => rfl))) (pe_ix ix_tup (pv 4) pe_int (fun _ _ => rfl))))))
      (pss_one (ps_ret (pe_call G_l_ratio (hr.mono (by omega)) (by rfl) T.m_l_ratio T.F_l_ratio.kp T.b_l_ratio .nil pass0 (pa_cons (pe_callB (cr_sum rfl) (by rfl) T.z_sum (by decide +kernel) (pa_cons (pe_lc (own := [("_law_one", 3), ("_law_two", 4)]) (g := gTup K 2 (gCons (gName 3) (gCons (gName 4) gNil))) (by rfl) sc_l_dot.nd (pi_m (by rfl) T.z_zip (pa_cons (pv 0) (pa_cons (pv 1) pa_nil))) (blkOk_by (own := [("_law_one", 3), ("_law_two", 4)]) (N := N_l_dot) (sc := defScope s_l_dot) (by decide +kernel)) (fun _ _ _ _ _ => (pg_tup rfl (pgs_cons (pg_name (i := 3) sc_l_dot.nd rfl (Or.inl rfl)) (pgs_cons (pg_name (i := 4) sc_l_dot.nd rfl (Or.inl rfl)) pgs_nil)))) (fun _ _ _ _ _ => pts_nil) (fun _ _ _ _ _ => (pe_op op_mulX (pe_op op_mulX (pe_ix (ix_tupK (K := K) rfl) (pv 3) pe_int (fun _ _ => rfl)) (pe_ix (ix_tupK (K := K) rfl) (pv 4) pe_int (fun _ _ => rfl))) (pe_op (op_fdivS (P := P) (base := base) hr) (pv 2) (pe_op op_mulX (pe_ix (ix_tupK (K := K) rfl) (pv 3) pe_int (fun _ _ => rfl)) (pe_ix (ix_tupK (K := K) rfl) (pv 4) pe_int (fun _ _ => rfl))))))) pa_nil)) (pa_cons (pv 2) pa_nil))))))), ?_⟩)
  obtain ⟨z, v⟩ := a
  obtain ⟨⟨h1, h2⟩, ⟨k1, k2⟩⟩ := hp
  dsimp only at h1 h2 k1 k2
  have b1 := rt_bd h1
  have b2 := rt_bd h2
  have c1 := rt_bd k1
  have c2 := rt_bd k2
  have u1 : bd 8000001 (1 * (z.1.den : Int)) := by rw [Int.one_mul]; exact bd_mono b1.2 (by decide)
  have u2 : bd 16000001 (1 * (z.1.den : Int) * (v.1.den : Int)) := bd_mono (bd_mul u1 c1.2) (by decide)
  have u3 : bd 24000001 (1 * (z.1.den : Int) * (v.1.den : Int) * (z.2.den : Int)) := bd_mono (bd_mul u2 b2.2) (by decide)
  have u4 : bd 32000001 (1 * (z.1.den : Int) * (v.1.den : Int) * (z.2.den : Int) * (v.2.den : Int)) := bd_mono (bd_mul u3 c2.2) (by decide)
  have up : ∀ {n : Nat} {i : Int}, bd n i → n ≤ 50000000 → bd 50000000 i := fun h k => bd_mono h k
  have p1 : (0 : Int) < (z.1.den : Int) * (v.1.den : Int) := Int.mul_pos (den0 _) (den0 _)
  have p2 : (0 : Int) < (z.2.den : Int) * (v.2.den : Int) := Int.mul_pos (den0 _) (den0 _)
  have p12 : (0 : Int) < 1 * (z.1.den : Int) * (v.1.den : Int) * (z.2.den : Int) * (v.2.den : Int) := Int.mul_pos (Int.mul_pos (Int.mul_pos (Int.mul_pos (by decide) (den0 _)) (den0 _)) (den0 _)) (den0 _)
  have q4 : ∀ {j : Int}, bd 50000000 ((1 * (z.1.den : Int) * (v.1.den : Int) * (z.2.den : Int) * (v.2.den : Int)) / j) := fun {j} => bd_le (Int.natAbs_ediv_le_natAbs _ _) (up u4 (by decide))
  refine run_setD ev_int ?_
  refine run_seq (N1 := fun ρ' => ∃ o3 o4 : Option Sl, ρ' = [some (.d (pD z)), some (.d (pD v)), some (.d (.int (1 * (z.1.den : Int) * (v.1.den : Int) * (z.2.den : Int) * (v.2.den : Int)))), o3, o4])
    (run_forZT (ds := [rt z.1, rt z.2]) (es := [rt v.1, rt v.2]) ev_var ev_var (fun i ρ' => ∃ (u : Int) (o3 o4 : Option Sl), (i = 0 → u = 1) ∧ (i = 1 → u = 1 * (z.1.den : Int) * (v.1.den : Int)) ∧ (i = 2 → u = 1 * (z.1.den : Int) * (v.1.den : Int) * (z.2.den : Int) * (v.2.den : Int)) ∧ ρ' = [some (.d (pD z)), some (.d (pD v)), some (.d (.int u)), o3, o4])
      ⟨1, none, none, fun _ => rfl, fun h => absurd h (by decide), fun h => absurd h (by decide), rfl⟩ (fun i d e ρ' hd he hI => ?_) fun ρ' hI => ?_) fun ρ' hI => ?_
  · obtain ⟨u, o3, o4, e0, e1, e2, rfl⟩ := hI
    match i, hd, he with
    | 0, hd, he =>
      cases hd
      cases he
      cases e0 rfl
      refine ⟨_, tg_tup (tgs_cons tg_name (tgs_cons tg_name tgs_nil)), ?_⟩
      refine run_set (ev_I (ev_I ev_var (ev_ixT ev_var ev_int) (mul_bd (up (n := 1) (by unfold bd; decide) (by decide)) (up b1.2 (by decide)))) (ev_ixT ev_var ev_int) (mul_bd (up u1 (by decide)) (up c1.2 (by decide)))) fun d e => ?_
      cases (show d = _ from e)
      exact ⟨_, _, _, fun h => absurd h (by decide), fun _ => rfl, fun h => absurd h (by decide), rfl⟩
    | 1, hd, he =>
      cases hd
      cases he
      cases e1 rfl
      refine ⟨_, tg_tup (tgs_cons tg_name (tgs_cons tg_name tgs_nil)), ?_⟩
      refine run_set (ev_I (ev_I ev_var (ev_ixT ev_var ev_int) (mul_bd (up u2 (by decide)) (up b2.2 (by decide)))) (ev_ixT ev_var ev_int) (mul_bd (up u3 (by decide)) (up c2.2 (by decide)))) fun d e => ?_
      cases (show d = _ from e)
      exact ⟨_, _, _, fun h => absurd h (by decide), fun h => absurd h (by decide), fun _ => rfl, rfl⟩
    | n + 2, hd, he => exact nomatch hd
  · obtain ⟨u, o3, o4, e0, e1, e2, rfl⟩ := hI
    cases e2 rfl
    exact ⟨o3, o4, rfl⟩
  obtain ⟨o3, o4, rfl⟩ := hI
  refine run_retD (ev_callD (([z.1.num * v.1.num * ((1 * (z.1.den : Int) * (v.1.den : Int) * (z.2.den : Int) * (v.2.den : Int)) / ((z.1.den : Int) * (v.1.den : Int))), z.2.num * v.2.num * ((1 * (z.1.den : Int) * (v.1.den : Int) * (z.2.den : Int) * (v.2.den : Int)) / ((z.2.den : Int) * (v.2.den : Int)))] : List Int).sum, 1 * (z.1.den : Int) * (v.1.den : Int) * (z.2.den : Int) * (v.2.den : Int)) (ea_cons (ev_sumL (EvL.mono (el_mapZT (ds := [rt z.1, rt z.2]) (es := [rt v.1, rt v.2]) (fun i => .int (if i = 0 then z.1.num * v.1.num * ((1 * (z.1.den : Int) * (v.1.den : Int) * (z.2.den : Int) * (v.2.den : Int)) / ((z.1.den : Int) * (v.1.den : Int))) else z.2.num * v.2.num * ((1 * (z.1.den : Int) * (v.1.den : Int) * (z.2.den : Int) * (v.2.den : Int)) / ((z.2.den : Int) * (v.2.den : Int))))) ev_var ev_var rfl (by show 2 ≤ 1000; decide) fun i d e hd he => ?_) fun ds e => e)) (ea_cons ev_var ea_nil)) p12) ?_
  · match i, hd, he with
    | 0, hd, he =>
      cases hd
      cases he
      exact ⟨_, tc_pair, ev_I (ev_I (ev_ixT ev_var ev_int) (ev_ixT ev_var ev_int) (mul_bd b1.1 c1.1)) (ev_I ev_var (ev_I (ev_ixT ev_var ev_int) (ev_ixT ev_var ev_int) (mul_bd b1.2 c1.2)) p1) (mul_bd (up (bd_mul b1.1 c1.1) (by decide)) q4)⟩
    | 1, hd, he =>
      cases hd
      cases he
      exact ⟨_, tc_pair, ev_I (ev_I (ev_ixT ev_var ev_int) (ev_ixT ev_var ev_int) (mul_bd b2.1 c2.1)) (ev_I ev_var (ev_I (ev_ixT ev_var ev_int) (ev_ixT ev_var ev_int) (mul_bd b2.2 c2.2)) p2) (mul_bd (up (bd_mul b2.1 c2.1) (by decide)) q4)⟩
    | n + 2, hd, he => exact nomatch hd
  show frp (red _ _) = _
  rw [dot_red]
def angP : Option (Int × Int) → Pt
  | none => ⟨-1, 0, 1⟩
  | some (p, q) => mkPt p q
theorem ok_l_angle (T : Tx K mg) : FnOk P w K mg base CX0 35 T.f_l_angle T.fd_l_angle ["_law_half"] (spP K (fun a : Option (Int × Int) => [match a with | none => .none | some (p, q) => fr p q]) (fun a => ∀ p q, a = some (p, q) → p.natAbs ≤ 1000 ∧ q.natAbs ≤ 1000 ∧ (p ≠ 0 ∨ q ≠ 0)) fun a => Is (tnD (angP a))) := by
  have G_l_ratio := ok_l_ratio (P := P) (w := w) (base := base) T
  refine fnP T.F_l_angle sc_l_angle (fun _ => rfl) (fun cdv A outer s H E a hr hp => ⟨_, (pss_cons (ps_if (pt_cmpR op_isN (pv 0) pe_non (nomark _))
        (pss_one (ps_ret (pe_tup (pa_cons (pe_tup (pa_cons (pe_un un_neg pe_int) (pa_cons pe_int pa_nil))) (pa_cons (pe_tup (pa_cons pe_int (pa_cons pe_int pa_nil))) pa_nil)))))
        pss_nil)
      (pss_cons (ps_asg (pv 0) (pg_tup rfl (pgs_cons (pg_name (i := 1) sc_l_angle.nd rfl (.inl rfl)) (pgs_cons (pg_name (i := 2) sc_l_angle.nd rfl (.inl rfl)) pgs_nil))))
      (pss_cons (ps_set (i := 3) sc_l_angle.nd rfl (.inl rfl) (pe_op op_add (pe_op op_mulX (pv 1) (pv 1)) (pe_op op_mulX (pv 2) (pv 2))))
      (pss_one (ps_ret (pe_tup (pa_cons (pe_call G_l_ratio (hr.mono (by omega)) (by rfl) T.m_l_ratio T.F_l_ratio.kp T.b_l_ratio .nil pass0 (pa_cons (pe_op op_sub (pe_op op_mulX (pv 2) (pv 2)) (pe_op op_mulX (pv 1) (pv 1))) (pa_cons (pv 3) pa_nil))) (pa_cons (pe_call G_l_ratio (hr.mono (by omega)) (by rfl) T.m_l_ratio T.F_l_ratio.kp T.b_l_ratio .nil pass0 (pa_cons (pe_op op_mulX (pe_op op_mulX pe_int (pv 1)) (pv 2)) (pa_cons (pv 3) pa_nil))) pa_nil)))))))), ?_⟩)
  match a, hp with
  | none, _ =>
    exact run_ifsD (et_test (ev_isNT ev_var (.inl rfl))) (fun _ => run_reta (ev_tup (ea_cons (ev_tup (ea_cons (ev_neg ev_int) (ea_cons ev_int ea_nil))) (ea_cons (ev_tup (ea_cons ev_int (ea_cons ev_int ea_nil))) ea_nil))) fun d e => e.trans (by rfl)) fun z => nomatch (show true = false from z)
  | some (p, q), hp =>
    obtain ⟨hp, hq, hn⟩ := hp p q rfl
    have pb : bd 10 p := by unfold bd; omega
    have qb : bd 10 q := by unfold bd; omega
    have ok := mkPt_ok hn
    refine run_ifsD (et_test (ev_isNT ev_var (.inr ⟨_, rfl⟩))) (fun z => nomatch (show false = true from z)) fun _ => run_skip ?_
    refine run_asgD ev_var (tg_tup (tgs_cons tg_name (tgs_cons tg_name tgs_nil))) ?_
    have e1 : p * p + q * q = (mkPt p q).r := by show _ = q * q + p * p; omega
    refine run_setD (ev_is (ev_I0 (ev_I ev_var ev_var (mul_bd pb pb)) (ev_I ev_var ev_var (mul_bd qb qb))) (congrArg PyData.int e1)) ?_
    have p2 : bd 20 (2 * p) := bd_mono (bd_mul (n := 2) (by unfold bd; decide) pb) (by decide)
    refine run_retD (ev_tup (ea_cons (ev_callD ((mkPt p q).x, (mkPt p q).r) (ea_cons (ev_I0 (ev_I ev_var ev_var (mul_bd qb qb)) (ev_I ev_var ev_var (mul_bd pb pb))) (ea_cons ev_var ea_nil)) ok.pos) (ea_cons (ev_callD ((mkPt p q).y, (mkPt p q).r) (ea_cons (ev_I (ev_I ev_int ev_var (mul_bd (n := 10) (by unfold bd; decide) pb)) ev_var (mul_bd p2 (bd_mono qb (by decide)))) (ea_cons ev_var ea_nil)) ok.pos) ea_nil))) ?_
    show PyData.tuple [frp (red _ _), frp (red _ _)] = _
    rw [tn_x, tn_y ok]
    rfl
theorem ok_l_bit (T : Tx K mg) : FnOk P w K mg base CX0 35 T.f_l_bit T.fd_l_bit ["_law_tap_here"] (spW K (fun _ : Unit => []) (fun _ => True) fun _ => RtP) := by
  have G_l_dip := ok_l_dip (P := P) (w := w) (base := base) T
  have G_l_ratio := ok_l_ratio (P := P) (w := w) (base := base) T
  have G_l_of := ok_l_of (P := P) (w := w) (base := base) T
  refine fnW T.F_l_bit sc_l_bit (fun _ => rfl) (fun cdv A outer s H E a wa hr hp => ⟨_, (pss_cons (ps_set (i := 1) sc_l_bit.nd rfl (.inl rfl) (pe_call G_l_dip (hr.mono (by omega)) (by rfl) T.m_l_dip T.F_l_dip.kp T.b_l_dip .nil pass0 (pa_cons (pv 0) (pa_cons pe_int pa_nil))))
      (pss_cons (ps_if (pt_cmpR (op_eqD hr.units) (pv 1) pe_int (nomark _))
        (pss_cons (ps_set (i := 2) sc_l_bit.nd rfl (.inl rfl) (pe_op op_sub (pe_call G_l_dip (hr.mono (by omega)) (by rfl) T.m_l_dip T.F_l_dip.kp T.b_l_dip .nil pass0 (pa_cons (pv 0) (pa_cons pe_int pa_nil))) pe_int))
        (pss_one (ps_ret (pe_call G_l_ratio (hr.mono (by omega)) (by rfl) T.m_l_ratio T.F_l_ratio.kp T.b_l_ratio .nil pass0 (pa_cons (pv 2) (pa_cons (pe_op op_add pe_int (pe_call G_l_dip (hr.mono (by omega)) (by rfl) T.m_l_dip T.F_l_dip.kp T.b_l_dip .nil pass0 (pa_cons (pv 0) (pa_cons pe_int pa_nil)))) pa_nil))))))
        pss_nil)
      (pss_cons (ps_set (i := 2) sc_l_bit.nd rfl (.inl rfl) (pe_op op_sub (pe_call G_l_dip (hr.mono (by omega)) (by rfl) T.m_l_dip T.F_l_dip.kp T.b_l_dip .nil pass0 (pa_cons (pv 0) (pa_cons pe_int pa_nil))) pe_int))
      (pss_one (ps_ret (pe_call G_l_ratio (hr.mono (by omega)) (by rfl) T.m_l_ratio T.F_l_ratio.kp T.b_l_ratio .nil pass0 (pa_cons (pv 2) (pa_cons (pe_call G_l_of (hr.mono (by omega)) (by rfl) T.m_l_of T.F_l_of.kp T.b_l_of .nil pass0 (pa_cons (pv 0) (pa_cons (pe_tup (pa_cons pe_int (pa_cons pe_int (pa_cons pe_int (pa_cons pe_int (pa_cons pe_int (pa_cons pe_int (pa_cons pe_int pa_nil)))))))) pa_nil))) pa_nil)))))))), ?_⟩)
  have fin : ∀ {i j : Int} {d : PyData}, 0 < j → i.natAbs ≤ 1000001 → j.natAbs ≤ 1000001 → Is (frp (red i j)) d → RtP d := fun {i j d} j0 hi hj e => by
    refine ⟨rv i j, ?_, rb_rv j0 (Nat.lt_of_le_of_lt hi (by decide)) (Nat.lt_of_le_of_lt hj (by decide))⟩
    rw [show d = _ from e, red_rv j0]
  refine run_sets (ev_callWD (24 : Int) rfl (ea_cons ev_int ea_nil) ⟨by decide, by decide⟩) fun d ⟨way, e, _⟩ => ?_
  subst e
  refine run_ifsD (et_test (ev_eqD ev_var ev_int rfl rfl)) (fun _ => ?_) fun _ => run_skip ?_
  · refine run_asc ?_
    refine run_sets (S := IntP fun n => -1000001 ≤ n ∧ n ≤ 1000001) ((ev_I0P (ev_callWD (2000003 : Int) rfl (ea_cons ev_int ea_nil) ⟨by decide, by decide⟩) (ev_asP ev_int (P := fun i => i = 1000001) rfl)).mono fun d ⟨i, e, x, y, hx, hy, hi⟩ => ⟨i, e, by omega, by omega⟩) fun d ⟨up, e, hu⟩ => ?_
    subst e
    refine run_reta (ev_call (S := RtP) (ea2 (ev_asP ev_var (P := fun i => i = up) rfl) (ev_I0P (ev_asP ev_int (P := fun i => i = 1) rfl) (ev_callWD (9973 : Int) rfl (ea_cons ev_int ea_nil) ⟨by decide, by decide⟩))) ?_) fun d e => e
    rintro ds ⟨d, e, rfl, ⟨i, rfl, rfl⟩, ⟨j, rfl, x, y, hx, hy, hj⟩⟩
    exact ⟨(i, j), rfl, by dsimp only; omega, fun d e => fin (by omega) (by omega) (by omega) e⟩
  refine run_sets (S := IntP fun n => -4 ≤ n ∧ n ≤ 4) ((ev_I0P (ev_callWD (9 : Int) rfl (ea_cons ev_int ea_nil) ⟨by decide, by decide⟩) (ev_asP ev_int (P := fun i => i = 4) rfl)).mono fun d ⟨i, e, x, y, hx, hy, hi⟩ => ⟨i, e, by omega, by omega⟩) fun d ⟨up, e, hu⟩ => ?_
  subst e
  refine run_ret (S := RtP) (ev_call (ea2 (ev_asP ev_var (P := fun i => i = up) rfl) (EvD.mono (Sb := IntP fun n => 1 ≤ n ∧ n ≤ 10) (ev_callWD (([1, 2, 3, 4, 5, 8, 10] : List Int).map PyData.int) rfl (ea_cons (ev_tup (ea_cons ev_int (ea_cons ev_int (ea_cons ev_int (ea_cons ev_int (ea_cons ev_int (ea_cons ev_int (ea_cons ev_int ea_nil)))))))) ea_nil) ⟨by decide, by decide⟩) (picks_int (by decide)))) ?_) fun d e => e
  rintro ds ⟨d, e, rfl, ⟨i, rfl, rfl⟩, ⟨j, rfl, hj⟩⟩
  exact ⟨(i, j), rfl, by dsimp only; omega, fun d e => fin (by omega) (by omega) (by omega) e⟩
theorem ok_l_cross (T : Tx K mg) : FnOk P w K mg base CX0 36 T.f_l_cross T.fd_l_cross ["_law_one", "_law_two"] (spP K (fun a : Pr × Pr => [pD a.1, pD a.2]) (fun a => (Rb 8000000 a.1.1 ∧ Rb 8000000 a.1.2) ∧ (Rb 8000000 a.2.1 ∧ Rb 8000000 a.2.2)) fun a => Is (pD (cmu a.1 a.2))) := by
  have G_l_dot := ok_l_dot (P := P) (w := w) (base := base) T
  have G_l_opp := ok_l_opp (P := P) (w := w) (base := base) T
  refine fnP T.F_l_cross sc_l_cross (fun _ => rfl) (fun cdv A outer s H E a hr hp => ⟨_, (pss_one (ps_ret (pe_tup (pa_cons (pe_call G_l_dot (hr.mono (by omega)) (by rfl) T.m_l_dot T.F_l_dot.kp T.b_l_dot .nil pass0 (pa_cons (pe_tup (pa_cons (pe_ix ix_tup (pv 0) pe_int (fun _ _ => rfl)) (pa_cons (pe_ix ix_tup (pv 0) pe_int (fun _ _ => rfl)) pa_nil))) (pa_cons (pe_tup (pa_cons (pe_ix ix_tup (pv 1) pe_int (fun _ _ => rfl)) (pa_cons (pe_call G_l_opp (hr.mono (by omega)) (by rfl) T.m_l_opp T.F_l_opp.kp T.b_l_opp .nil pass0 (pa_cons (pe_ix ix_tup (pv 1) pe_int (fun _ _ => rfl)) pa_nil)) pa_nil))) pa_nil))) (pa_cons (pe_call G_l_dot (hr.mono (by omega)) (by rfl) T.m_l_dot T.F_l_dot.kp T.b_l_dot .nil pass0 (pa_cons (pe_tup (pa_cons (pe_ix ix_tup (pv 0) pe_int (fun _ _ => rfl)) (pa_cons (pe_ix ix_tup (pv 0) pe_int (fun _ _ => rfl)) pa_nil))) (pa_cons (pv 1) pa_nil))) pa_nil))))), ?_⟩)
  obtain ⟨⟨x, y⟩, ⟨u, v⟩⟩ := a
  obtain ⟨h, k⟩ := hp
  dsimp only at h k
  refine run_retD (ev_tup (ea_cons (ev_callD ((x, y), (u, -v)) (ea_cons (ev_tup (ea_cons (ev_ixT ev_var ev_int) (ea_cons (ev_ixT ev_var ev_int) ea_nil))) (ea_cons (ev_tup (ea_cons (ev_ixT ev_var ev_int) (ea_cons (ev_callD v (ea_cons (ev_ixT ev_var ev_int) ea_nil) trivial) ea_nil))) ea_nil)) ⟨h, k.1, neg_rb k.2⟩)
    (ea_cons (ev_callD ((y, x), (u, v)) (ea_cons (ev_tup (ea_cons (ev_ixT ev_var ev_int) (ea_cons (ev_ixT ev_var ev_int) ea_nil))) (ea_cons ev_var ea_nil)) ⟨⟨h.2, h.1⟩, k⟩) ea_nil))) ?_
  show PyData.tuple [rt _, rt _] = PyData.tuple [rt _, rt _]
  rw [show dt (x, y) (u, -v) = (cmu (x, y) (u, v)).1 by simp only [dt, cmu]; grind, show dt (y, x) (u, v) = (cmu (x, y) (u, v)).2 by simp only [dt, cmu]; grind]
end
end My
set_option Elab.async false
set_option linter.all false
set_option maxRecDepth 100000
set_option maxHeartbeats 4000000
namespace My
open PySem PySem.Spec PyProof.Rows L2 Vd Mt
section
variable {P : Program} {w : World} {K : PySem.W.Frag} {mg : Str → Option Value} {base : Heap} {c Ptb : Addr} [Sees P base]
def TurnP (d : PyData) : Prop := ∃ z : Pr, d = pD z ∧ Ub 21 z
theorem turnP_of {a : Option (Int × Int)} (h : ∀ p q, a = some (p, q) → p.natAbs ≤ 1000 ∧ q.natAbs ≤ 1000 ∧ (p ≠ 0 ∨ q ≠ 0)) : TurnP (tnD (angP a)) := by
  match a, h with
  | none, _ => exact ⟨_, tn_rt ⟨by decide, by decide⟩, _, ⟨⟨by decide, by decide⟩, by decide⟩, rfl⟩
  | some (p, q), h =>
    obtain ⟨h1, h2, h3⟩ := h p q rfl
    have b := mk_bd h1 h2 h3
    exact ⟨_, tn_rt b.1, _, b, rfl⟩
theorem angD {L : List (Option (Int × Int))} (h : L.all (fun a => match a with | none => true | some (p, q) => decide (p.natAbs ≤ 1000) && (decide (q.natAbs ≤ 1000) && decide (p ≠ 0 ∨ q ≠ 0))) = true) {d : PyData} (hd : d ∈ L.map fun a => match a with | none => PyData.none | some (p, q) => fr p q) : ∃ a : Option (Int × Int), d = (match a with | none => PyData.none | some (p, q) => fr p q) ∧ ∀ p q, a = some (p, q) → p.natAbs ≤ 1000 ∧ q.natAbs ≤ 1000 ∧ (p ≠ 0 ∨ q ≠ 0) := by
  obtain ⟨a, ha, rfl⟩ := List.mem_map.mp hd
  refine ⟨a, rfl, fun p q e => ?_⟩
  have z := List.all_eq_true.mp h a ha
  subst e
  simp only [Bool.and_eq_true, decide_eq_true_eq] at z
  exact z
theorem ok_l_turn (T : Tx K mg) : FnOk P w K mg base CX0 36 T.f_l_turn T.fd_l_turn ["_law_tap_here"] (spW K (fun _ : Unit => []) (fun _ => True) fun _ => TurnP) := by
  have G_l_dip := ok_l_dip (P := P) (w := w) (base := base) T
  have G_l_angle := ok_l_angle (P := P) (w := w) (base := base) T
  have G_l_ratio := ok_l_ratio (P := P) (w := w) (base := base) T
  have G_l_of := ok_l_of (P := P) (w := w) (base := base) T
  refine fnW T.F_l_turn sc_l_turn (fun _ => rfl) (fun cdv A outer s H E a wa hr hp => ⟨_, (pss_cons (ps_set (i := 1) sc_l_turn.nd rfl (.inl rfl) (pe_call G_l_dip (hr.mono (by omega)) (by rfl) T.m_l_dip T.F_l_dip.kp T.b_l_dip .nil pass0 (pa_cons (pv 0) (pa_cons pe_int pa_nil))))
      (pss_cons (ps_if (pt_cmpR op_lt (pv 1) pe_int (nomark _))
        (pss_one (ps_ret (pe_call G_l_angle (hr.mono (by omega)) (by rfl) T.m_l_angle T.F_l_angle.kp T.b_l_angle .nil pass0 (pa_cons (pe_call G_l_of (hr.mono (by omega)) (by rfl) T.m_l_of T.F_l_of.kp T.b_l_of .nil pass0 (pa_cons (pv 0) (pa_cons (pe_tup (pa_cons (pe_tup (pa_cons pe_int (pa_cons pe_int pa_nil))) (pa_cons (pe_tup (pa_cons pe_int (pa_cons pe_int pa_nil))) (pa_cons pe_non (pa_cons (pe_tup (pa_cons (pe_un un_neg pe_int) (pa_cons pe_int pa_nil))) pa_nil))))) pa_nil))) pa_nil))))
        pss_nil)
      (pss_cons (ps_set (i := 2) sc_l_turn.nd rfl (.inl rfl) (pe_ifExp (pt_cmpR (op_eqD hr.units) (pv 1) pe_int (nomark _)) pe_int pe_int))
      (pss_cons (ps_set (i := 3) sc_l_turn.nd rfl (.inl rfl) (pe_op op_sub (pe_call G_l_dip (hr.mono (by omega)) (by rfl) T.m_l_dip T.F_l_dip.kp T.b_l_dip .nil pass0 (pa_cons (pv 0) (pa_cons (pe_op op_add (pe_op op_mulX pe_int (pv 2)) pe_int) pa_nil))) (pv 2)))
      (pss_one (ps_ret (pe_call G_l_angle (hr.mono (by omega)) (by rfl) T.m_l_angle T.F_l_angle.kp T.b_l_angle .nil pass0 (pa_cons (pe_call G_l_ratio (hr.mono (by omega)) (by rfl) T.m_l_ratio T.F_l_ratio.kp T.b_l_ratio .nil pass0 (pa_cons (pv 3) (pa_cons (pe_op op_add pe_int (pe_call G_l_dip (hr.mono (by omega)) (by rfl) T.m_l_dip T.F_l_dip.kp T.b_l_dip .nil pass0 (pa_cons (pv 0) (pa_cons (pv 2) pa_nil)))) pa_nil))) pa_nil)))))))), ?_⟩)
  refine run_sets (ev_callWD (7 : Int) rfl (ea_cons ev_int ea_nil) ⟨by decide, by decide⟩) fun d ⟨way, e, _⟩ => ?_
  subst e
  refine run_ifsD (et_test (ev_B0 ev_var ev_int)) (fun _ => ?_) fun _ => run_skip ?_
  · refine run_reta (ev_call (S := TurnP) (ea1 (ev_callWD (([some (0, 1), some (1, 1), none, some (-1, 1)] : List (Option (Int × Int))).map fun a => match a with | none => PyData.none | some (p, q) => fr p q) rfl (ea_cons (ev_tup (ea_cons (ev_tup (ea_cons ev_int (ea_cons ev_int ea_nil))) (ea_cons (ev_tup (ea_cons ev_int (ea_cons ev_int ea_nil))) (ea_cons ev_non (ea_cons (ev_tup (ea_cons (ev_neg ev_int) (ea_cons ev_int ea_nil))) ea_nil))))) ea_nil) ⟨by decide, by decide⟩)) ?_) fun d e => e
    rintro ds ⟨d, rfl, hd⟩
    obtain ⟨a, rfl, ha⟩ := angD (by decide) hd
    exact ⟨a, rfl, ha, fun d e => by rw [show d = _ from e]; exact turnP_of ha⟩
  refine run_sets (S := IntP fun n => 3 ≤ n ∧ n ≤ 30) ((ev_ifD (S := fun d => d = .int 30 ∨ d = .int 3) (et_test (ev_eqD ev_var ev_int rfl rfl)) (fun _ => ev_int.mono fun d e => .inl e) fun _ => ev_int.mono fun d e => .inr e).mono fun d e => ?_) fun d ⟨wide, e, hw⟩ => ?_
  · rcases e with rfl | rfl
    · exact ⟨30, rfl, by decide, by decide⟩
    · exact ⟨3, rfl, by decide, by decide⟩
  subst e
  refine run_sets (S := IntP fun n => -30 ≤ n ∧ n ≤ 30) ((ev_I0P (ev_callWD (2 * wide + 1) rfl (ea_cons (ev_I0 (ev_I ev_int ev_var (mul_bd (n := 21) (by unfold bd; decide) (by unfold bd; omega))) ev_int) ea_nil) ⟨by omega, by omega⟩) (ev_asP ev_var (P := fun i => i = wide) rfl)).mono fun d ⟨i, e, x, y, hx, hy, hi⟩ => ⟨i, e, by omega, by omega⟩) fun d ⟨up, e, hu⟩ => ?_
  subst e
  refine run_ret (S := TurnP) (ev_call (ea1 (ev_call (S := fun d => ∃ p q : Int, d = fr p q ∧ p.natAbs ≤ 1000 ∧ q.natAbs ≤ 1000 ∧ (p ≠ 0 ∨ q ≠ 0)) (ea2 (ev_asP ev_var (P := fun i => i = up) rfl) (ev_I0P (ev_asP ev_int (P := fun i => i = 1) rfl) (ev_callWD wide rfl (ea_cons ev_var ea_nil) ⟨by omega, by omega⟩))) ?_)) ?_) fun d e => e
  · rintro ds ⟨d, e, rfl, ⟨i, rfl, rfl⟩, ⟨j, rfl, x, y, hx, hy, hj⟩⟩
    have j0 : 0 < j := by omega
    refine ⟨(i, j), rfl, j0, fun d e => ⟨_, _, e, ?_, ?_, .inr ?_⟩⟩
    · show (red i j).1.natAbs ≤ 1000
      have := red_abs (n := i) (m := j); omega
    · show (red i j).2.natAbs ≤ 1000
      have a := red_le (n := i) j0
      have b := red_pos (n := i) j0
      omega
    · show (red i j).2 ≠ 0
      have := red_pos (n := i) j0; omega
  · rintro ds ⟨d, rfl, p, q, rfl, hpq⟩
    have h : ∀ p' q', some (p, q) = some (p', q') → p'.natAbs ≤ 1000 ∧ q'.natAbs ≤ 1000 ∧ (p' ≠ 0 ∨ q' ≠ 0) := fun p' q' e => by cases e; exact hpq
    exact ⟨some (p, q), rfl, h, fun d e => by rw [show d = _ from e]; exact turnP_of h⟩
theorem ok_l_plain (T : Tx K mg) : FnOk P w K mg base CX0 36 T.f_l_plain T.fd_l_plain ["_law_tap_here"] (spW K (fun _ : Unit => []) (fun _ => True) fun _ => TurnP) := by
  have G_l_angle := ok_l_angle (P := P) (w := w) (base := base) T
  have G_l_of := ok_l_of (P := P) (w := w) (base := base) T
  refine fnW T.F_l_plain sc_l_plain (fun _ => rfl) (fun cdv A outer s H E a wa hr hp => ⟨_, (pss_cons (ps_set (i := 1) sc_l_plain.nd rfl (.inl rfl) (pe_tup (pa_cons (pe_tup (pa_cons pe_int (pa_cons pe_int pa_nil))) (pa_cons (pe_tup (pa_cons pe_int (pa_cons pe_int pa_nil))) (pa_cons pe_non (pa_cons (pe_tup (pa_cons (pe_un un_neg pe_int) (pa_cons pe_int pa_nil))) (pa_cons (pe_tup (pa_cons pe_int (pa_cons pe_int pa_nil))) (pa_cons (pe_tup (pa_cons pe_int (pa_cons pe_int pa_nil))) (pa_cons (pe_tup (pa_cons (pe_un un_neg pe_int) (pa_cons pe_int pa_nil))) (pa_cons (pe_tup (pa_cons (pe_un un_neg pe_int) (pa_cons pe_int pa_nil))) (pa_cons (pe_tup (pa_cons pe_int (pa_cons pe_int pa_nil))) (pa_cons (pe_tup (pa_cons (pe_un un_neg pe_int) (pa_cons pe_int pa_nil))) (pa_cons (pe_tup (pa_cons pe_int (pa_cons pe_int pa_nil))) pa_nil)))))))))))))
      (pss_one (ps_ret (pe_call G_l_angle (hr.mono (by omega)) (by rfl) T.m_l_angle T.F_l_angle.kp T.b_l_angle .nil pass0 (pa_cons (pe_call G_l_of (hr.mono (by omega)) (by rfl) T.m_l_of T.F_l_of.kp T.b_l_of .nil pass0 (pa_cons (pv 0) (pa_cons (pv 1) pa_nil))) pa_nil))))), ?_⟩)
  have two : ∀ {p q : Int} {ρ : Rho}, EvD K (some wa) (tTup (tCons (tC (.int p)) (tCons (tC (.int q)) tNil))) ρ (Is (fr p q)) := fun {p q ρ} => ev_tup (ea_cons ev_int (ea_cons ev_int ea_nil))
  have ntwo : ∀ {p q : Int} {ρ : Rho}, EvD K (some wa) (tTup (tCons (tUn (rU fun i => .int (-i)) (tC (.int p))) (tCons (tC (.int q)) tNil))) ρ (Is (fr (-p) q)) := fun {p q ρ} => ev_tup (ea_cons (ev_neg ev_int) (ea_cons ev_int ea_nil))
  refine run_sets (ev_tup (ds := ([some (0, 1), some (1, 1), none, some (-1, 1), some (1, 2), some (2, 1), some (-1, 2), some (-2, 1), some (1, 3), some (-3, 1), some (2, 3)] : List (Option (Int × Int))).map fun a => match a with | none => PyData.none | some (p, q) => fr p q) (ea_cons two (ea_cons two (ea_cons ev_non (ea_cons ntwo (ea_cons two (ea_cons two (ea_cons ntwo (ea_cons ntwo (ea_cons two (ea_cons ntwo (ea_cons two ea_nil)))))))))))) fun d e => ?_
  cases (show d = _ from e)
  refine run_ret (S := TurnP) (ev_call (ea1 (ev_callWD (([some (0, 1), some (1, 1), none, some (-1, 1), some (1, 2), some (2, 1), some (-1, 2), some (-2, 1), some (1, 3), some (-3, 1), some (2, 3)] : List (Option (Int × Int))).map fun a => match a with | none => PyData.none | some (p, q) => fr p q) rfl (ea_cons ev_var ea_nil) ⟨by decide, by decide⟩)) ?_) fun d e => e
  rintro ds ⟨d, rfl, hd⟩
  obtain ⟨a, rfl, ha⟩ := angD (by decide) hd
  exact ⟨a, rfl, ha, fun d e => by rw [show d = _ from e]; exact turnP_of ha⟩
theorem ok_l_stepped (T : Tx K mg) : FnOk P w K mg base CX0 36 T.f_l_stepped T.fd_l_stepped ["_law_tap_here", "_law_most"] (spW K (fun a : Int => [.int a]) (fun a => 1 ≤ a ∧ a ≤ 8) fun _ d => ∃ (e : PyData) (g : Int), d = .tuple [e, .int g] ∧ WvS e ∧ 1 ≤ g ∧ g ≤ 8) := by
  have G_l_dip := ok_l_dip (P := P) (w := w) (base := base) T
  have G_l_trim := ok_l_trim (P := P) (w := w) (base := base) T
  have G_l_bit := ok_l_bit (P := P) (w := w) (base := base) T
  refine fnW T.F_l_stepped sc_l_stepped (fun _ => rfl) (fun cdv A outer s H E a wa hr hp => ⟨_, (pss_cons (ps_set (i := 2) sc_l_stepped.nd rfl (.inl rfl) (pe_op op_add pe_int (pe_call G_l_dip (hr.mono (by omega)) (by rfl) T.m_l_dip T.F_l_dip.kp T.b_l_dip .nil pass0 (pa_cons (pv 0) (pa_cons pe_int pa_nil)))))
      (pss_cons (ps_par (i := 3) (j := 4) (by rfl) sc_l_stepped.nd rfl rfl (by decide) rfl rfl (pa_cons (pe_tup (pa_cons (pe_tup (pa_cons pe_int (pa_cons pe_int pa_nil))) (pa_cons (pe_tup (pa_cons pe_int (pa_cons pe_int pa_nil))) pa_nil))) (pa_cons (pe_lst pa_nil) pa_nil)) (by rfl))
      (pss_cons (ps_for PassesOwn.never rfl (pi_range2 (by rfl) T.z_range (pa_cons pe_int (pa_cons (pe_op op_add (pv 1) pe_int) pa_nil))) (pg_name (i := 5) sc_l_stepped.nd rfl (.inl rfl))
        (pss_cons (ps_par3 (i := 6) (j := 7) (l := 8) (by rfl) sc_l_stepped.nd rfl rfl rfl (by decide) (by decide) (by decide) rfl rfl rfl (pa_cons (pe_call G_l_bit (hr.mono (by omega)) (by rfl) T.m_l_bit T.F_l_bit.kp T.b_l_bit .nil pass0 (pa_cons (pv 0) pa_nil)) (pa_cons (pe_call G_l_bit (hr.mono (by omega)) (by rfl) T.m_l_bit T.F_l_bit.kp T.b_l_bit .nil pass0 (pa_cons (pv 0) pa_nil)) (pa_cons (pe_call G_l_dip (hr.mono (by omega)) (by rfl) T.m_l_dip T.F_l_dip.kp T.b_l_dip .nil pass0 (pa_cons (pv 0) (pa_cons pe_int pa_nil))) pa_nil))) (by rfl))
        (pss_one (ps_expr (pe_bm PySem.F.plainAttrs_list PySem.F.slot_list_append PySem.F.type_list_append mt_append (pv 4) (pa_cons (pe_ifExp (PW.pt (pw_and (pt_cmpR (op_eqD hr.units) (pe_op op_mod (pe_callTy call_int1 (by rfl) T.z_int (by decide +kernel) (pa_cons (pv 5) pa_nil)) (pv 2)) pe_int (nomark _)) (pw_and1 (PW.pt (pw_or (pt_cmpR op_gt (pv 8) pe_int (nomark _)) (pw_or1 (pt_cmpR (op_eqD hr.units) (pv 5) (pv 2) (nomark _)))))))) (pe_tup (pa_cons (pv 6) (pa_cons (pv 7) pa_nil))) (pv 3)) pa_nil))))))
      (pss_one (ps_ret (pe_tup (pa_cons (pe_call G_l_trim (hr.mono (by omega)) (by rfl) T.m_l_trim T.F_l_trim.kp T.b_l_trim .nil pass0 (pa_cons (pe_call G_l_bit (hr.mono (by omega)) (by rfl) T.m_l_bit T.F_l_bit.kp T.b_l_bit .nil pass0 (pa_cons (pv 0) pa_nil)) (pa_cons (pv 4) pa_nil))) (pa_cons (pv 2) pa_nil)))))))), ?_⟩)
  refine run_sets (S := IntP fun n => 1 ≤ n ∧ n ≤ 8) ((ev_I0P (ev_asP ev_int (P := fun i => i = 1) rfl) (ev_callWD (4 : Int) rfl (ea_cons ev_int ea_nil) ⟨by decide, by decide⟩)).mono fun d ⟨i, e, x, y, hx, hy, hi⟩ => ⟨i, e, by omega, by omega⟩) fun d ⟨g, e, hg⟩ => ?_
  subst e
  refine run_parR (S := Is (pD (0, 0))) (ev_tup (ea_cons (ev_tup (ea_cons ev_int (ea_cons ev_int ea_nil))) (ea_cons (ev_tup (ea_cons ev_int (ea_cons ev_int ea_nil))) ea_nil))) fun d e => ?_
  cases (show d = _ from e)
  refine run_seq (N1 := fun ρ' => ∃ (M : List Pr) (o5 o6 o7 o8 : Option Sl), M.length ≤ 8 ∧ Sz 21 M ∧ ρ' = [some (.obj wa), some (.d (.int a)), some (.d (.int g)), some (.d (pD (0, 0))), some (.own (M.map pD)), o5, o6, o7, o8])
    (run_forR2 (lo := 1) (hi := a + 1) (ea_cons ev_int (ea_cons (ev_I0 ev_var ev_int) ea_nil)) (by omega) (by omega) (fun i ρ' => ∃ (M : List Pr) (o5 o6 o7 o8 : Option Sl), M.length = i ∧ Sz 21 M ∧ ρ' = [some (.obj wa), some (.d (.int a)), some (.d (.int g)), some (.d (pD (0, 0))), some (.own (M.map pD)), o5, o6, o7, o8]) ⟨[], none, none, none, none, rfl, fun j => ⟨rb_0, rb_0⟩, rfl⟩ (fun i ρ' hi hI => ?_) fun ρ' hI => ?_) fun ρ' hI => ?_
  · obtain ⟨M, o5, o6, o7, o8, hM, hs, rfl⟩ := hI
    refine run_par3 (ea3 (ev_callWD () rfl ea_nil trivial) (ev_callWD () rfl ea_nil trivial) (ev_callWD (3 : Int) rfl (ea_cons ev_int ea_nil) ⟨by decide, by decide⟩)) ?_
    rintro ds ⟨d, e, f, rfl, ⟨p, rfl, hp1⟩, ⟨q, rfl, hq1⟩, ⟨sort, rfl, _⟩⟩
    refine ⟨_, _, _, rfl, ?_⟩
    refine run_app (ds := M.map pD) (S := fun d => ∃ x : Pr, d = pD x ∧ Rb 21 x.1 ∧ Rb 21 x.2) rfl (ev_ifD (et_and (et_test (ev_eqD (ev_I (ev_int1 ev_var) ev_var (by show (0 : Int) < _; omega)) ev_int rfl rfl)) fun _ => et_or (et_test (ev_B0 ev_var ev_int)) fun _ => et_test (ev_eqD ev_var ev_var rfl rfl)) (fun _ => EvD.mono (ev_tup (ea_cons ev_var (ea_cons ev_var ea_nil))) fun d e => ⟨(p, q), e, hp1, hq1⟩) fun _ => EvD.mono ev_var fun d e => ⟨(0, 0), e, rb_0, rb_0⟩) (by rw [List.length_map]; omega) fun d ⟨x, e, h1, h2⟩ => ?_
    subst e
    refine ⟨M ++ [x], _, _, _, _, by rw [List.length_append, hM]; rfl, Sz.of (by decide) fun y hy => ?_, by rw [List.map_append]; rfl⟩
    rcases List.mem_append.mp hy with h | h
    · exact hs.mem y h
    · rw [List.mem_singleton.mp h]; exact ⟨h1, h2⟩
  · obtain ⟨M, o5, o6, o7, o8, hM, hs, e⟩ := hI
    exact ⟨M, o5, o6, o7, o8, by omega, hs, e⟩
  obtain ⟨M, o5, o6, o7, o8, hM, hs, rfl⟩ := hI
  refine run_ret (EvD.mono (ev_tupP (ea2 (S := WvS) (S2 := Is (.int g)) (ev_callX (er_dP (ev_callWD () rfl ea_nil trivial) (er_own rfl er_nil)) ?_) ev_var) ?_) ?_) fun d e => e
  · rintro as ⟨d, as', rfl, ⟨k, rfl, hk⟩, e⟩
    rw [show as' = _ from e]
    exact ⟨(k, M), rfl, by show M.length ≤ 1000; omega, fun d e => ⟨k, trimR M, e, wv_trim hM, hk, (hs.mono (by decide)).trim⟩⟩
  · rintro ds ⟨d, e, rfl, _⟩
    exact Nat.le_of_ble_eq_true rfl
  · rintro d ⟨ds, rfl, d, e, rfl, h1, h2⟩
    exact ⟨d, g, by rw [show e = _ from h2], h1, hg⟩
theorem ok_l_climb (T : Tx K mg) : FnOk P w K mg base CX0 37 T.f_l_climb T.fd_l_climb ["_law_turn_here", "_law_times"] (spP K (fun a : Pr × Int => [pD a.1, .int a.2]) (fun a => ∃ n, Ub n a.1 ∧ n * (a.2.natAbs + 1) ≤ 4000000 ∧ a.2.natAbs ≤ 1000) fun a => Is (pD (zp a.1 a.2))) := by
  have G_l_cross := ok_l_cross (P := P) (w := w) (base := base) T
  have G_l_back := ok_l_back (P := P) (w := w) (base := base) T
  refine fnP T.F_l_climb sc_l_climb (fun _ => rfl) (fun cdv A outer s H E a hr hp => ⟨_, (pss_cons (ps_par (i := 2) (j := 3) (by rfl) sc_l_climb.nd rfl rfl (by decide) rfl rfl (pa_cons (pe_tup (pa_cons (pe_tup (pa_cons pe_int (pa_cons pe_int pa_nil))) (pa_cons (pe_tup (pa_cons pe_int (pa_cons pe_int pa_nil))) pa_nil))) (pa_cons (pe_ifExp (pt_cmpR op_ge (pv 1) pe_int (nomark _)) (pv 0) (pe_call G_l_back (hr.mono (by omega)) (by rfl) T.m_l_back T.F_l_back.kp T.b_l_back .nil pass0 (pa_cons (pv 0) pa_nil))) pa_nil)) (by rfl))
      (pss_cons (ps_for PassesOwn.never rfl (pi_range1 (by rfl) T.z_range (pa_cons (pe_callB call_abs (by rfl) T.z_abs (by decide +kernel) (pa_cons (pv 1) pa_nil)) pa_nil)) (pg_name (i := 4) sc_l_climb.nd rfl (.inl rfl))
        (pss_one (ps_set (i := 2) sc_l_climb.nd rfl (.inl rfl) (pe_call G_l_cross (hr.mono (by omega)) (by rfl) T.m_l_cross T.F_l_cross.kp T.b_l_cross .nil pass0 (pa_cons (pv 2) (pa_cons (pv 3) pa_nil))))))
      (pss_one (ps_ret (pv 2))))), ?_⟩)
  obtain ⟨z, k⟩ := a
  obtain ⟨n, hz, hn, hk⟩ := hp
  dsimp only at hz hn hk
  have hs : Ub n (if 0 ≤ k then z else cc z) := by
    split
    · exact hz
    · exact hz.cc
  have n1 : n ≤ 4000000 := by
    rw [Nat.mul_add] at hn
    omega
  have ab : (if k < 0 then -k else k) = ((k.natAbs : Nat) : Int) := by split <;> omega
  refine run_parD (d := pD c1) (e := pD (if 0 ≤ k then z else cc z)) (ea_cons (ev_tup (ea_cons (ev_tup (ea_cons ev_int (ea_cons ev_int ea_nil))) (ea_cons (ev_tup (ea_cons ev_int (ea_cons ev_int ea_nil))) ea_nil))) (ea_cons (ev_ifD (et_test (ev_B0 ev_var ev_int)) (fun q => ?_) fun q => ?_) ea_nil)) ?_
  · rw [if_pos (show (0 : Int) ≤ k from of_decide_eq_true q)]
    exact ev_var
  · rw [if_neg (show ¬ (0 : Int) ≤ k from of_decide_eq_false q)]
    exact ev_callD z (ea_cons ev_var ea_nil) trivial
  refine run_seq (N1 := fun ρ' => ∃ o : Option Sl, ρ' = [some (.d (pD z)), some (.d (.int k)), some (.d (pD (zp z k))), some (.d (pD (if 0 ≤ k then z else cc z))), o]) (run_forR (n := ((k.natAbs : Nat) : Int)) (ea_cons (ev_is (ev_abs ev_var) (congrArg PyData.int ab)) ea_nil) (by omega) (by omega) (fun i ρ' => ∃ o : Option Sl, ρ' = [some (.d (pD z)), some (.d (.int k)), some (.d (pD (np (if 0 ≤ k then z else cc z) i))), some (.d (pD (if 0 ≤ k then z else cc z))), o]) ⟨none, rfl⟩ (fun i ρ' hi hI => ?_) fun ρ' hI => ?_) fun ρ' hI => ?_
  · obtain ⟨o, rfl⟩ := hI
    have hi' : i < k.natAbs := by omega
    have ni : n * i ≤ n * (k.natAbs + 1) := Nat.mul_le_mul_left _ (by omega)
    have a := ((hs.np i).mono (m := 8000000) (by omega)).rb
    have b := (hs.mono (m := 8000000) (by omega)).rb
    refine run_set (ev_callD (np (if 0 ≤ k then z else cc z) i, if 0 ≤ k then z else cc z) (ea_cons ev_var (ea_cons ev_var ea_nil)) ⟨a, b⟩) fun d e => ⟨some (.d (.int (i : Int))), ?_⟩
    cases (show d = _ from e)
    rfl
  · obtain ⟨o, e⟩ := hI
    exact ⟨o, e⟩
  obtain ⟨o, rfl⟩ := hI
  exact run_retD ev_var rfl
theorem turnC_take (L : List Pr) (s : Pr) {i : Nat} {q : Pr} (h : L[i]? = some q) : (turnC L s).take (i + 1) = (turnC L s).take i ++ [cc (cmu (cc q) (np s (i + 1)))] := by
  rw [List.take_add_one]
  congr 1
  unfold turnC
  rw [List.getElem?_mapIdx, h]
  rfl
theorem turnC_parts (q z : Pr) : (dt q z, dt q (-z.2, z.1)) = cc (cmu (cc q) z) := by
  simp only [dt, cc, cmu, Prod.mk.injEq]
  constructor <;> grind
theorem ok_l_turned (T : Tx K mg) : FnOk P w K mg base CX0 37 T.f_l_turned T.fd_l_turned ["_law_wave", "_law_turn_here"] (spP K (fun a : (Rat × List Pr) × Pr => [wD a.1.1 a.1.2, pD a.2]) (fun a => a.1.2.length ≤ 8 ∧ Sz 1000 a.1.2 ∧ Ub 21 a.2) fun a => Is (wD a.1.1 (turnC a.1.2 a.2))) := by
  have G_l_cross := ok_l_cross (P := P) (w := w) (base := base) T
  have G_l_dot := ok_l_dot (P := P) (w := w) (base := base) T
  have G_l_opp := ok_l_opp (P := P) (w := w) (base := base) T
  refine fnP T.F_l_turned sc_l_turned (fun _ => rfl) (fun cdv A outer s H E a hr hp => ⟨_, (pss_cons (ps_par (i := 2) (j := 3) (by rfl) sc_l_turned.nd rfl rfl (by decide) rfl rfl (pa_cons (pe_tup (pa_cons (pe_tup (pa_cons pe_int (pa_cons pe_int pa_nil))) (pa_cons (pe_tup (pa_cons pe_int (pa_cons pe_int pa_nil))) pa_nil))) (pa_cons (pe_lst pa_nil) pa_nil)) (by rfl))
      (pss_cons (ps_for PassesOwn.never rfl (pi_tup (pe_ix ix_tup (pv 0) pe_int (fun _ _ => rfl))) (pg_name (i := 4) sc_l_turned.nd rfl (.inl rfl))
        (pss_cons (ps_set (i := 2) sc_l_turned.nd rfl (.inl rfl) (pe_call G_l_cross (hr.mono (by omega)) (by rfl) T.m_l_cross T.F_l_cross.kp T.b_l_cross .nil pass0 (pa_cons (pv 2) (pa_cons (pv 1) pa_nil))))
        (pss_one (ps_expr (pe_bm PySem.F.plainAttrs_list PySem.F.slot_list_append PySem.F.type_list_append mt_append (pv 3) (pa_cons (pe_tup (pa_cons (pe_call G_l_dot (hr.mono (by omega)) (by rfl) T.m_l_dot T.F_l_dot.kp T.b_l_dot .nil pass0 (pa_cons (pv 4) (pa_cons (pv 2) pa_nil))) (pa_cons (pe_call G_l_dot (hr.mono (by omega)) (by rfl) T.m_l_dot T.F_l_dot.kp T.b_l_dot .nil pass0 (pa_cons (pv 4) (pa_cons (pe_tup (pa_cons (pe_call G_l_opp (hr.mono (by omega)) (by rfl) T.m_l_opp T.F_l_opp.kp T.b_l_opp .nil pass0 (pa_cons (pe_ix ix_tup (pv 2) pe_int (fun _ _ => rfl)) pa_nil)) (pa_cons (pe_ix ix_tup (pv 2) pe_int (fun _ _ => rfl)) pa_nil))) pa_nil))) pa_nil))) pa_nil))))))
      (pss_one (ps_ret (pe_tup (pa_cons (pe_ix ix_tup (pv 0) pe_int (fun _ _ => rfl)) (pa_cons (pe_callTy call_tuple_of (by rfl) T.z_tuple (by decide +kernel) (pa_cons (pv 3) pa_nil)) pa_nil))))))), ?_⟩)
  obtain ⟨⟨k, L⟩, z⟩ := a
  obtain ⟨h8, hL, hz⟩ := hp
  dsimp only at h8 hL hz
  refine run_parR (S := Is (pD c1)) (ev_tup (ea_cons (ev_tup (ea_cons ev_int (ea_cons ev_int ea_nil))) (ea_cons (ev_tup (ea_cons ev_int (ea_cons ev_int ea_nil))) ea_nil))) fun d e => ?_
  cases (show d = _ from e)
  refine run_seq (N1 := fun ρ' => ∃ o2 o4 : Option Sl, ρ' = [some (.d (wD k L)), some (.d (pD z)), o2, some (.own ((turnC L z).map pD)), o4])
    (run_forT (ds := L.map pD) (ev_ixT ev_var ev_int) (fun i ρ' => ∃ o4 : Option Sl, ρ' = [some (.d (wD k L)), some (.d (pD z)), some (.d (pD (np z i))), some (.own (((turnC L z).take i).map pD)), o4]) ⟨none, rfl⟩ (fun i d ρ' hd hI => ?_) fun ρ' hI => ?_) fun ρ' hI => ?_
  · obtain ⟨o4, rfl⟩ := hI
    rw [List.getElem?_map] at hd
    cases ej : L[i]? with
    | none => rw [ej] at hd; cases hd
    | some q =>
      rw [ej] at hd
      cases hd
      have hi : i < L.length := (List.getElem?_eq_some_iff.mp ej).1
      have eg : L.getD i (0, 0) = q := by rw [List.getD_eq_getElem?_getD, ej]; rfl
      have hq := hL i
      rw [eg] at hq
      have q8 : Rb 8000000 q.1 ∧ Rb 8000000 q.2 := ⟨hq.1.mono (by decide), hq.2.mono (by decide)⟩
      have z8 := (hz.mono (m := 8000000) (by decide)).rb
      have a0 := ((hz.np i).mono (m := 8000000) (by omega)).rb
      have a1 := ((hz.np (i + 1)).mono (m := 8000000) (by omega)).rb
      refine ⟨_, tg_name, ?_⟩
      refine run_setD (d := pD (np z (i + 1))) (ev_callD (np z i, z) (ea_cons ev_var (ea_cons ev_var ea_nil)) ⟨a0, z8⟩) ?_
      refine run_app (ds := ((turnC L z).take i).map pD) (S := Is (pD (cc (cmu (cc q) (np z (i + 1)))))) rfl (ev_is (ev_tup (ea_cons (ev_callD (q, np z (i + 1)) (ea_cons ev_var (ea_cons ev_var ea_nil)) ⟨q8, a1⟩) (ea_cons (ev_callD (q, (-(np z (i + 1)).2, (np z (i + 1)).1)) (ea_cons ev_var (ea_cons (ev_tup (ea_cons (ev_callD (np z (i + 1)).2 (ea_cons (ev_ixT ev_var ev_int) ea_nil) trivial) (ea_cons (ev_ixT ev_var ev_int) ea_nil))) ea_nil)) ⟨q8, neg_rb a1.2, a1.1⟩) ea_nil))) (congrArg pD (turnC_parts q (np z (i + 1))))) (by rw [List.length_map, List.length_take, turnC_len]; omega) fun d e => ?_
      cases (show d = _ from e)
      refine ⟨some (.d (pD q)), ?_⟩
      rw [turnC_take L z ej, List.map_append]
      rfl
  · obtain ⟨o4, e⟩ := hI
    rw [List.length_map, ← turnC_len L z, List.take_length] at e
    exact ⟨_, _, e⟩
  · obtain ⟨o2, o4, rfl⟩ := hI
    exact run_retD (ev_tup (ea_cons (ev_ixT ev_var ev_int) (ea_cons (ev_tupOwn (.inl rfl)) ea_nil))) rfl
end
end My
set_option Elab.async false
set_option linter.all false
set_option maxRecDepth 100000
set_option maxHeartbeats 4000000
namespace My
open PySem PySem.Spec PyProof.Rows L2 Vd Mt
section
variable {P : Program} {w : World} {K : PySem.W.Frag} {mg : Str → Option Value} {base : Heap} {c Ptb : Addr} [Sees P base]
theorem sh_stp (z v : Pr) : ((cmu (cc v) (cc (cc z))).1 * (nr z)⁻¹, (cmu (cc v) (cc (cc z))).2 * (nr z)⁻¹) = stp z v := by
  rw [cc_cc]
  unfold stp
  rw [show (cmu (cc v) z).1 = dt z v by simp only [cmu, cc, dt]; grind, show (cmu (cc v) z).2 = dt (z.2, -z.1) v by simp only [cmu, cc, dt]; grind]
theorem ok_l_shared (T : Tx K mg) : FnOk P w K mg base CX0 37 T.f_l_shared T.fd_l_shared ["_law_one", "_law_two"] (spP K (fun a : Pr × Pr => [pD (cc a.1), pD (cc a.2)]) (fun a => a.1 ≠ (0, 0) ∧ (Rb 1000 a.1.1 ∧ Rb 1000 a.1.2) ∧ (Rb 1000 a.2.1 ∧ Rb 1000 a.2.2)) fun a => Is (pD (stp a.1 a.2))) := by
  have G_l_dot := ok_l_dot (P := P) (w := w) (base := base) T
  have G_l_cross := ok_l_cross (P := P) (w := w) (base := base) T
  have G_l_div := ok_l_div (P := P) (w := w) (base := base) T
  have G_l_back := ok_l_back (P := P) (w := w) (base := base) T
  refine fnP T.F_l_shared sc_l_shared (fun _ => rfl) (fun cdv A outer s H E a hr hp => ⟨_, (pss_cons (ps_par (i := 2) (j := 3) (by rfl) sc_l_shared.nd rfl rfl (by decide) rfl rfl (pa_cons (pe_call G_l_dot (hr.mono (by omega)) (by rfl) T.m_l_dot T.F_l_dot.kp T.b_l_dot .nil pass0 (pa_cons (pv 0) (pa_cons (pv 0) pa_nil))) (pa_cons (pe_call G_l_cross (hr.mono (by omega)) (by rfl) T.m_l_cross T.F_l_cross.kp T.b_l_cross .nil pass0 (pa_cons (pv 1) (pa_cons (pe_call G_l_back (hr.mono (by omega)) (by rfl) T.m_l_back T.F_l_back.kp T.b_l_back .nil pass0 (pa_cons (pv 0) pa_nil)) pa_nil))) pa_nil)) (by rfl))
      (pss_one (ps_ret (pe_tup (pa_cons (pe_call G_l_div (hr.mono (by omega)) (by rfl) T.m_l_div T.F_l_div.kp T.b_l_div .nil pass0 (pa_cons (pe_ix ix_tup (pv 3) pe_int (fun _ _ => rfl)) (pa_cons (pv 2) pa_nil))) (pa_cons (pe_call G_l_div (hr.mono (by omega)) (by rfl) T.m_l_div T.F_l_div.kp T.b_l_div .nil pass0 (pa_cons (pe_ix ix_tup (pv 3) pe_int (fun _ _ => rfl)) (pa_cons (pv 2) pa_nil))) pa_nil)))))), ?_⟩)
  obtain ⟨z, v⟩ := a
  obtain ⟨nz, h, k⟩ := hp
  dsimp only at nz h k
  have up : ∀ {x : Rat}, Rb 1000 x → Rb 8000000 x := fun h => h.mono (by decide)
  have p := nr_pos nz
  have n1 : Rb 20000000 (nr z) := (nr_rb (n := 1000) h).mono (by decide)
  have e1 : dt (cc z) (cc z) = nr z := by simp only [dt, cc, nr]; grind
  have c1 := cmu_rb (n := 1000) (m := 1000) (z := cc v) (v := cc (cc z)) ⟨k.1, neg_rb k.2⟩ ⟨h.1, neg_rb (neg_rb h.2)⟩
  have hz : Rb 8000000 (cc z).1 ∧ Rb 8000000 (cc z).2 := ⟨up h.1, up (neg_rb h.2)⟩
  refine run_parD (d := rt (nr z)) (e := pD (cmu (cc v) (cc (cc z)))) (ea_cons (ev_is (ev_callD (cc z, cc z) (ea_cons ev_var (ea_cons ev_var ea_nil)) ⟨hz, hz⟩) (congrArg rt e1)) (ea_cons (ev_callD (cc v, cc (cc z)) (ea_cons ev_var (ea_cons (ev_callD (cc z) (ea_cons ev_var ea_nil) trivial) ea_nil)) ⟨⟨up k.1, up (neg_rb k.2)⟩, up h.1, up (neg_rb (neg_rb h.2))⟩) ea_nil)) ?_
  refine run_retD (ev_tup (ea_cons (ev_callD ((cmu (cc v) (cc (cc z))).1, nr z) (ea_cons (ev_ixT ev_var ev_int) (ea_cons ev_var ea_nil)) ⟨p, c1.1.mono (by decide), n1⟩) (ea_cons (ev_callD ((cmu (cc v) (cc (cc z))).2, nr z) (ea_cons (ev_ixT ev_var ev_int) (ea_cons ev_var ea_nil)) ⟨p, c1.2.mono (by decide), n1⟩) ea_nil))) ?_
  exact congrArg pD (sh_stp z v)
theorem flt_cmu {z v : Pr} (h : z.2 = 0) : cmu (cc z) v = (z.1 * v.1, z.1 * v.2) := by
  obtain ⟨x, y⟩ := z
  simp only at h
  subst h
  simp only [cmu, cc, Prod.mk.injEq]
  constructor <;> grind
theorem flt_rb {n m : Nat} {z v : Pr} (h : Rb n z.1) (h0 : z.2 = 0) (k : Rb m v.1 ∧ Rb m v.2) : Rb (n + m) (cmu (cc z) v).1 ∧ Rb (n + m) (cmu (cc z) v).2 := by
  rw [flt_cmu h0]
  exact ⟨rb_mul h k.1, rb_mul h k.2⟩
/-- as long, none of its pairs is nought where the other's is not -/
def Like (L M : List Pr) : Prop := M.length = L.length ∧ ∀ j, gp M j = (0, 0) → gp L j = (0, 0)
theorem like_wv {L M : List Pr} (h : Like L M) (w : Wv L) : Wv M := by
  refine ⟨by rw [h.1]; exact w.1, fun I l e q => ?_⟩
  have len := congrArg List.length e
  rw [List.length_append, List.length_singleton, h.1] at len
  have z := h.2 I.length (by unfold gp; rw [e, List.getD_eq_getElem?_getD, List.getElem?_append_right (Nat.le_refl _), Nat.sub_self]; exact q)
  rcases List.eq_nil_or_concat L with rfl | ⟨J, a, rfl⟩
  · cases len
  · rw [List.concat_eq_append] at *
    rw [List.length_append, List.length_singleton] at len
    have ej : J.length = I.length := by omega
    unfold gp at z
    rw [← ej, List.getD_eq_getElem?_getD, List.getElem?_append_right (Nat.le_refl _), Nat.sub_self] at z
    exact w.2 J a rfl z
theorem cc_nz {z : Pr} (h : cc z = (0, 0)) : z = (0, 0) := by rw [← cc_cc z, h]; exact cc_zero
theorem cmu_nz {z s : Pr} (hs : nr s = 1) (h : cmu z s = (0, 0)) : z = (0, 0) := by
  have a := nr_cmu z s
  rw [h, nr_zero, hs, Rat.mul_one] at a
  exact nr_iff.mp a.symm
theorem ok_l_spun (T : Tx K mg) : FnOk P w K mg base CX0 38 T.f_l_spun T.fd_l_spun ["_law_wave", "_law_g", "_law_s"] (spP K (fun a : (Rat × List Pr) × Int × Pr => [wD a.1.1 a.1.2, .int a.2.1, pD a.2.2]) (fun a => a.1.2.length ≤ 8 ∧ Sz 43 a.1.2 ∧ (1 ≤ a.2.1 ∧ a.2.1 ≤ 8) ∧ Ub 21 a.2.2 ∧ ∀ j, (gp a.1.2 j).2 = 0) fun a d => ∃ M, d = wD a.1.1 M ∧ Like a.1.2 M ∧ Sz 243 M) := by
  have G_l_cross := ok_l_cross (P := P) (w := w) (base := base) T
  have G_l_climb := ok_l_climb (P := P) (w := w) (base := base) T
  have G_l_opp := ok_l_opp (P := P) (w := w) (base := base) T
  refine fnP T.F_l_spun sc_l_spun (fun _ => rfl) (fun cdv A outer s H E a hr hp => ⟨_, (pss_cons (ps_set (i := 3) sc_l_spun.nd rfl (.inl rfl) (pe_lst pa_nil))
      (pss_cons (ps_for PassesOwn.never rfl (pi_en0 (by rfl) T.z_enumerate (pa_cons (pe_ix ix_tup (pv 0) pe_int (fun _ _ => rfl)) pa_nil)) (pg_tup rfl (pgs_cons (pg_name (i := 4) sc_l_spun.nd rfl (.inl rfl)) (pgs_cons (pg_name (i := 5) sc_l_spun.nd rfl (.inl rfl)) pgs_nil)))
        (pss_cons (ps_set (i := 6) sc_l_spun.nd rfl (.inl rfl) (pe_call G_l_cross (hr.mono (by omega)) (by rfl) T.m_l_cross T.F_l_cross.kp T.b_l_cross .nil pass0 (pa_cons (pe_tup (pa_cons (pe_ix ix_tup (pv 5) pe_int (fun _ _ => rfl)) (pa_cons (pe_call G_l_opp (hr.mono (by omega)) (by rfl) T.m_l_opp T.F_l_opp.kp T.b_l_opp .nil pass0 (pa_cons (pe_ix ix_tup (pv 5) pe_int (fun _ _ => rfl)) pa_nil)) pa_nil))) (pa_cons (pe_call G_l_climb (hr.mono (by omega)) (by rfl) T.m_l_climb T.F_l_climb.kp T.b_l_climb .nil pass0 (pa_cons (pv 2) (pa_cons (pe_op op_fdivW (pe_op op_add (pv 4) pe_int) (pv 1)) pa_nil))) pa_nil))))
        (pss_one (ps_expr (pe_bm PySem.F.plainAttrs_list PySem.F.slot_list_append PySem.F.type_list_append mt_append (pv 3) (pa_cons (pe_ifExp (pt_cmpR (op_neD hr.units) (pv 5) (pe_tup (pa_cons (pe_tup (pa_cons pe_int (pa_cons pe_int pa_nil))) (pa_cons (pe_tup (pa_cons pe_int (pa_cons pe_int pa_nil))) pa_nil))) (nomark _)) (pe_tup (pa_cons (pe_ix ix_tup (pv 6) pe_int (fun _ _ => rfl)) (pa_cons (pe_call G_l_opp (hr.mono (by omega)) (by rfl) T.m_l_opp T.F_l_opp.kp T.b_l_opp .nil pass0 (pa_cons (pe_ix ix_tup (pv 6) pe_int (fun _ _ => rfl)) pa_nil)) pa_nil))) (pv 5)) pa_nil))))))
      (pss_one (ps_ret (pe_tup (pa_cons (pe_ix ix_tup (pv 0) pe_int (fun _ _ => rfl)) (pa_cons (pe_callTy call_tuple_of (by rfl) T.z_tuple (by decide +kernel) (pa_cons (pv 3) pa_nil)) pa_nil))))))), ?_⟩)
  obtain ⟨⟨k, L⟩, ⟨g, z⟩⟩ := a
  obtain ⟨h8, hL, hg, hz, hf⟩ := hp
  dsimp only at h8 hL hg hz hf
  refine run_setL el_nil fun ds e => ?_
  cases (show ds = _ from e)
  refine run_seq (N1 := fun ρ' => ∃ (M : List Pr) (o4 o5 o6 : Option Sl), Like L M ∧ Sz 243 M ∧ ρ' = [some (.d (wD k L)), some (.d (.int g)), some (.d (pD z)), some (.own (M.map pD)), o4, o5, o6])
    (run_forE (ds := L.map pD) (ev_ixT ev_var ev_int) (fun i ρ' => ∃ (M : List Pr) (o4 o5 o6 : Option Sl), M.length = i ∧ (∀ j, j < i → gp M j = (0, 0) → gp L j = (0, 0)) ∧ Sz 243 M ∧ ρ' = [some (.d (wD k L)), some (.d (.int g)), some (.d (pD z)), some (.own (M.map pD)), o4, o5, o6]) ⟨[], none, none, none, rfl, fun j h => absurd h (Nat.not_lt_zero _), fun j => ⟨rb_zero (by decide), rb_zero (by decide)⟩, rfl⟩ (fun i d ρ' hd hI => ?_) fun ρ' hI => ?_) fun ρ' hI => ?_
  · obtain ⟨M, o4, o5, o6, hM, hzz, hs, rfl⟩ := hI
    rw [List.getElem?_map] at hd
    cases ej : L[i]? with
    | none => rw [ej] at hd; cases hd
    | some q =>
      rw [ej] at hd
      cases hd
      have hi : i < L.length := (List.getElem?_eq_some_iff.mp ej).1
      have eg : gp L i = q := by unfold gp; rw [List.getD_eq_getElem?_getD, ej]; rfl
      have hq := hL i
      rw [show L.getD i (0, 0) = q from eg] at hq
      have y0 : 0 ≤ ((i : Int) + 1) / g := Int.ediv_nonneg (by omega) (by omega)
      have y8 : ((i : Int) + 1) / g ≤ 8 := Int.le_trans (Int.ediv_le_self _ (by omega)) (by omega)
      have uz : Ub 170 (zp z (((i : Int) + 1) / g)) := (hz.zp _).mono (by omega)
      have z8 := (uz.mono (m := 8000000) (by decide)).rb
      have q8 : Rb 8000000 (cc q).1 ∧ Rb 8000000 (cc q).2 := ⟨hq.1.mono (by decide), (neg_rb hq.2).mono (by decide)⟩
      have cb := flt_rb (n := 43) (m := 170) hq.1 (by have := hf i; rw [eg] at this; exact this) uz.rb
      refine ⟨_, tg_tup (tgs_cons tg_name (tgs_cons tg_name tgs_nil)), ?_⟩
      refine run_setD (d := pD (cmu (cc q) (zp z (((i : Int) + 1) / g)))) (ev_callD (cc q, zp z (((i : Int) + 1) / g)) (ea_cons (ev_tup (ea_cons (ev_ixT ev_var ev_int) (ea_cons (ev_callD q.2 (ea_cons (ev_ixT ev_var ev_int) ea_nil) trivial) ea_nil))) (ea_cons (ev_callD (z, ((i : Int) + 1) / g) (ea_cons ev_var (ea_cons (ev_I (ev_I0 ev_var ev_int) ev_var (fdiv_ok (n := 8) (by omega) (by unfold bd; omega))) ea_nil)) ⟨21, hz, by dsimp only; omega, by dsimp only; omega⟩) ea_nil)) ⟨q8, z8⟩) ?_
      refine run_app (ds := M.map pD) (S := fun d => ∃ x : Pr, d = pD x ∧ (x = (0, 0) → gp L i = (0, 0)) ∧ Rb 243 x.1 ∧ Rb 243 x.2) rfl (ev_ifD (b := !decide (q = (0, 0))) (et_test (ev_is (ev_neD ev_var (ev_tup (ea_cons (ev_tup (ea_cons ev_int (ea_cons ev_int ea_nil))) (ea_cons (ev_tup (ea_cons ev_int (ea_cons ev_int ea_nil))) ea_nil))) rfl rfl) (congrArg (fun b => PyData.bool (!b)) eqv_pD1))) (fun _ => EvD.mono (ev_tup (ea_cons (ev_ixT ev_var ev_int) (ea_cons (ev_callD (cmu (cc q) (zp z (((i : Int) + 1) / g))).2 (ea_cons (ev_ixT ev_var ev_int) ea_nil) trivial) ea_nil))) fun d e => ⟨cc (cmu (cc q) (zp z (((i : Int) + 1) / g))), e, fun h => ?_, cb.1.mono (by decide), neg_rb (cb.2.mono (by decide))⟩) fun _ => EvD.mono ev_var fun d e => ⟨q, e, fun h => by rw [eg]; exact h, hq.1.mono (by decide), hq.2.mono (by decide)⟩) (by rw [List.length_map]; omega) fun d ⟨x, e, h1, h2, h3⟩ => ?_
      · rw [eg]
        exact cc_nz (cmu_nz uz.nr (cc_nz h))
      · subst e
        refine ⟨M ++ [x], _, _, _, by rw [List.length_append, hM]; rfl, fun j hj hx => ?_, Sz.of (by decide) fun y hy => ?_, by rw [List.map_append]; rfl⟩
        · unfold gp at hx
          rcases Nat.lt_or_ge j i with c | c
          · rw [List.getD_eq_getElem?_getD, List.getElem?_append_left (by omega)] at hx
            exact hzz j c (by unfold gp; rw [List.getD_eq_getElem?_getD]; exact hx)
          · have : j = i := by omega
            subst this
            rw [List.getD_eq_getElem?_getD, List.getElem?_append_right (by omega), show j - M.length = 0 by omega] at hx
            exact h1 hx
        · rcases List.mem_append.mp hy with h | h
          · exact hs.mem y h
          · rw [List.mem_singleton.mp h]; exact ⟨h2, h3⟩
  · obtain ⟨M, o4, o5, o6, hM, hzz, hs, e⟩ := hI
    rw [List.length_map] at hM hzz
    refine ⟨M, o4, o5, o6, ⟨hM, fun j hj => ?_⟩, hs, e⟩
    rcases Nat.lt_or_ge j L.length with c | c
    · exact hzz j c hj
    · exact gp_ge c
  obtain ⟨M, o4, o5, o6, hM, hs, rfl⟩ := hI
  exact run_ret (ev_tup (ea_cons (ev_ixT ev_var ev_int) (ea_cons (ev_tupOwn (.inl rfl)) ea_nil))) fun d e => ⟨M, e, hM, hs⟩
theorem ok_l_unit (T : Tx K mg) : FnOk P w K mg base CX0 38 T.f_l_unit T.fd_l_unit ["_law_k", "_law_e", "_law_f"] (spP K (fun a : Nat => [.int (a : Int), .int 0, .int 0]) (fun a => a ≤ 3) fun a => Is (pD (np (0, 1) a))) := by
  have G_l_cross := ok_l_cross (P := P) (w := w) (base := base) T
  have G_l_climb := ok_l_climb (P := P) (w := w) (base := base) T
  refine fnP T.F_l_unit sc_l_unit (fun _ => rfl) (fun cdv A outer s H E a hr hp => ⟨_, (pss_cons (ps_par (i := 3) (j := 4) (by rfl) sc_l_unit.nd rfl rfl (by decide) rfl rfl (pa_cons (pe_call G_l_climb (hr.mono (by omega)) (by rfl) T.m_l_climb T.F_l_climb.kp T.b_l_climb .nil pass0 (pa_cons (pe_tup (pa_cons (pe_tup (pa_cons pe_int (pa_cons pe_int pa_nil))) (pa_cons (pe_tup (pa_cons pe_int (pa_cons pe_int pa_nil))) pa_nil))) (pa_cons (pv 0) pa_nil))) (pa_cons (pe_call G_l_climb (hr.mono (by omega)) (by rfl) T.m_l_climb T.F_l_climb.kp T.b_l_climb .nil pass0 (pa_cons (pe_tup (pa_cons (pe_tup (pa_cons pe_int (pa_cons pe_int pa_nil))) (pa_cons (pe_tup (pa_cons pe_int (pa_cons pe_int pa_nil))) pa_nil))) (pa_cons (pv 1) pa_nil))) pa_nil)) (by rfl))
      (pss_one (ps_ret (pe_call G_l_cross (hr.mono (by omega)) (by rfl) T.m_l_cross T.F_l_cross.kp T.b_l_cross .nil pass0 (pa_cons (pv 3) (pa_cons (pe_call G_l_cross (hr.mono (by omega)) (by rfl) T.m_l_cross T.F_l_cross.kp T.b_l_cross .nil pass0 (pa_cons (pv 4) (pa_cons (pe_call G_l_climb (hr.mono (by omega)) (by rfl) T.m_l_climb T.F_l_climb.kp T.b_l_climb .nil pass0 (pa_cons (pe_tup (pa_cons (pe_tup (pa_cons pe_int (pa_cons pe_int pa_nil))) (pa_cons (pe_tup (pa_cons pe_int (pa_cons pe_int pa_nil))) pa_nil))) (pa_cons (pv 2) pa_nil))) pa_nil))) pa_nil)))))), ?_⟩)
  have q1 : Ub 1 ((0, 1) : Pr) := ⟨⟨0, 1, 1⟩, ⟨⟨by decide, by decide⟩, by decide⟩, by decide +kernel⟩
  have q2 : Ub 4 ((3 / 5, 4 / 5) : Pr) := ⟨⟨3, 4, 5⟩, ⟨⟨by decide, by decide⟩, by decide⟩, by decide +kernel⟩
  have q3 : Ub 4 ((5 / 13, 12 / 13) : Pr) := ⟨⟨5, 12, 13⟩, ⟨⟨by decide, by decide⟩, by decide⟩, by decide +kernel⟩
  have e1 : PyData.tuple [fr 0 1, fr 1 1] = pD (0, 1) := by kernel_rfl
  have e2 : PyData.tuple [fr 3 5, fr 4 5] = pD (3 / 5, 4 / 5) := by kernel_rfl
  have e3 : PyData.tuple [fr 5 13, fr 12 13] = pD (5 / 13, 12 / 13) := by kernel_rfl
  have two : ∀ {p q r t : Int} {ρ : Rho}, EvD K none (tTup (tCons (tTup (tCons (tC (.int p)) (tCons (tC (.int q)) tNil))) (tCons (tTup (tCons (tC (.int r)) (tCons (tC (.int t)) tNil))) tNil))) ρ (Is (.tuple [fr p q, fr r t])) := fun {p q r t ρ} => ev_tup (ea_cons (ev_tup (ea_cons ev_int (ea_cons ev_int ea_nil))) (ea_cons (ev_tup (ea_cons ev_int (ea_cons ev_int ea_nil))) ea_nil))
  have b1 : ∀ {n : Nat} {z : Pr}, Ub n z → n ≤ 100 → Rb 8000000 z.1 ∧ Rb 8000000 z.2 := fun h hn => (h.mono (m := 8000000) (by omega)).rb
  have z0 : ∀ z : Pr, zp z 0 = c1 := fun z => rfl
  have za : zp (0, 1) (a : Int) = np (0, 1) a := by unfold zp; rw [if_pos (by omega), Int.natAbs_natCast]
  have uo : Ub 1 c1 := ⟨⟨1, 0, 1⟩, ⟨⟨by decide, by decide⟩, by decide⟩, by decide +kernel⟩
  refine run_parD (d := pD (np (0, 1) a)) (e := pD c1) (ea_cons (ev_is (ev_callD (((0, 1) : Pr), (a : Int)) (ea_cons (ev_is two e1) (ea_cons ev_var ea_nil)) ⟨1, q1, by dsimp only; omega, by dsimp only; omega⟩) (congrArg pD za)) (ea_cons (ev_callD (((3 / 5, 4 / 5) : Pr), (0 : Int)) (ea_cons (ev_is two e2) (ea_cons ev_var ea_nil)) ⟨4, q2, by decide, by decide⟩) ea_nil)) ?_
  refine run_retD (ev_callD (np (0, 1) a, c1) (ea_cons ev_var (ea_cons (ev_is (ev_callD (c1, c1) (ea_cons ev_var (ea_cons (ev_callD (((5 / 13, 12 / 13) : Pr), (0 : Int)) (ea_cons (ev_is two e3) (ea_cons ev_var ea_nil)) ⟨4, q3, by decide, by decide⟩) ea_nil)) ⟨b1 uo (by decide), b1 uo (by decide)⟩) (congrArg pD (cmu_c1 c1))) ea_nil)) ⟨b1 (q1.np a) (by omega), b1 uo (by decide)⟩) ?_
  exact congrArg pD (cmu_c1 _)
theorem turnC_szF {L : List Pr} {s : Pr} (hL : Sz 43 L) (hf : ∀ j, (gp L j).2 = 0) (h8 : L.length ≤ 8) (hs : Ub 21 s) : Sz 243 (turnC L s) := fun j => by
  rcases Nat.lt_or_ge j L.length with c | c
  · have e := turnC_get L s j
    unfold gp at e
    rw [e]
    have a := ((hs.np (j + 1)).mono (m := 200) (by omega)).rb
    have b := flt_rb (n := 43) (m := 200) (hL j).1 (hf j) a
    exact ⟨b.1, neg_rb b.2⟩
  · rw [show (turnC L s).getD j (0, 0) = (0, 0) from gp_ge (by rw [turnC_len]; exact c)]
    exact ⟨rb_zero (by decide), rb_zero (by decide)⟩
theorem turnC_wv {L : List Pr} {z : Pr} (hL : Wv L) (nz : nr z = 1) : Wv (turnC L z) := like_wv ⟨turnC_len L z, fun j hj => by rw [turnC_get] at hj; exact cc_nz (cmu_nz (nr_np nz _) (cc_nz hj))⟩ hL
def DrS (d : PyData) : Prop := ∃ (k : Rat) (L : List Pr), d = wD k L ∧ Wv L ∧ Sz 243 L
theorem ok_l_drawn (T : Tx K mg) : FnOk P w K mg base CX0 39 T.f_l_drawn T.fd_l_drawn ["_law_tap_here"] (spW K (fun _ : Unit => []) (fun _ => True) fun _ => DrS) := by
  have G_l_stepped := ok_l_stepped (P := P) (w := w) (base := base) T
  have G_l_trim := ok_l_trim (P := P) (w := w) (base := base) T
  have G_l_dip := ok_l_dip (P := P) (w := w) (base := base) T
  have G_l_spun := ok_l_spun (P := P) (w := w) (base := base) T
  have G_l_turned := ok_l_turned (P := P) (w := w) (base := base) T
  have G_l_plain := ok_l_plain (P := P) (w := w) (base := base) T
  have G_l_turn := ok_l_turn (P := P) (w := w) (base := base) T
  refine fnW T.F_l_drawn sc_l_drawn (fun _ => rfl) (fun cdv A outer s H E a wa hr hp => ⟨_, (pss_cons (ps_asg (pe_call G_l_stepped (hr.mono (by omega)) (by rfl) T.m_l_stepped T.F_l_stepped.kp T.b_l_stepped .nil pass0 (pa_cons (pv 0) (pa_cons pe_int pa_nil))) (pg_tup rfl (pgs_cons (pg_name (i := 1) sc_l_drawn.nd rfl (.inl rfl)) (pgs_cons (pg_name (i := 2) sc_l_drawn.nd rfl (.inl rfl)) pgs_nil))))
      (pss_cons (ps_if (pt_cmpR (op_eqD hr.units) (pe_call G_l_dip (hr.mono (by omega)) (by rfl) T.m_l_dip T.F_l_dip.kp T.b_l_dip .nil pass0 (pa_cons (pv 0) (pa_cons pe_int pa_nil))) pe_int (nomark _))
        (pss_one (ps_ret (pv 1)))
        pss_nil)
      (pss_cons (ps_set (i := 3) sc_l_drawn.nd rfl (.inl rfl) (pe_call G_l_trim (hr.mono (by omega)) (by rfl) T.m_l_trim T.F_l_trim.kp T.b_l_trim .nil pass0 (pa_cons (pe_ix ix_tup (pv 1) pe_int (fun _ _ => rfl)) (pa_cons (pe_lc (own := [("_law_pair", 4)]) (g := gName 4) (by rfl) sc_l_drawn.nd (pi_tup (pe_ix ix_tup (pv 1) pe_int (fun _ _ => rfl))) (blkOk_by (own := [("_law_pair", 4)]) (N := N_l_drawn) (sc := defScope s_l_drawn) (by decide +kernel)) (fun _ _ _ _ _ => (pg_name (i := 4) sc_l_drawn.nd rfl (Or.inl rfl))) (fun _ _ _ _ _ => pts_nil) (fun _ _ _ _ _ => (pe_tup (pa_cons (pe_ix (ix_tupK (K := K) rfl) (pv 4) pe_int (fun _ _ => rfl)) (pa_cons (pe_tup (pa_cons pe_int (pa_cons pe_int pa_nil))) pa_nil))))) pa_nil))))
      (pss_one (ps_ret (pe_ifExp (pt_cmpR (op_eqD hr.units) (pe_call G_l_dip (hr.mono (by omega)) (by rfl) T.m_l_dip T.F_l_dip.kp T.b_l_dip .nil pass0 (pa_cons (pv 0) (pa_cons pe_int pa_nil))) pe_int (nomark _)) (pe_call G_l_spun (hr.mono (by omega)) (by rfl) T.m_l_spun T.F_l_spun.kp T.b_l_spun .nil pass0 (pa_cons (pv 3) (pa_cons (pv 2) (pa_cons (pe_call G_l_plain (hr.mono (by omega)) (by rfl) T.m_l_plain T.F_l_plain.kp T.b_l_plain .nil pass0 (pa_cons (pv 0) pa_nil)) pa_nil)))) (pe_call G_l_turned (hr.mono (by omega)) (by rfl) T.m_l_turned T.F_l_turned.kp T.b_l_turned .nil pass0 (pa_cons (pv 3) (pa_cons (pe_call G_l_turn (hr.mono (by omega)) (by rfl) T.m_l_turn T.F_l_turn.kp T.b_l_turn .nil pass0 (pa_cons (pv 0) pa_nil)) pa_nil))))))))), ?_⟩)
  refine run_asg (ev_callWD (8 : Int) rfl (ea_cons ev_int ea_nil) ⟨by decide, by decide⟩) fun d ⟨e, g, h, hw, hg⟩ => ?_
  subst h
  refine ⟨_, tg_tup (tgs_cons tg_name (tgs_cons tg_name tgs_nil)), ?_⟩
  obtain ⟨k, L, rfl, hL, hk, hs⟩ := hw
  refine run_ifs (Sc := fun _ => True) (et_testP (EvD.mono (ev_eqI (ev_callWD (2 : Int) rfl (ea_cons ev_int ea_nil) ⟨by decide, by decide⟩) ev_int) fun d ⟨b, e⟩ => ⟨b, e, trivial⟩)) (fun _ => ?_) fun _ => run_skip ?_
  · exact run_reta ev_var fun d e => ⟨k, L, e, hL, hs.mono (by decide)⟩
  have h8 := hL.1
  have fl8 : (L.map fun z : Pr => ((z.1, 0) : Pr)).length ≤ 8 := by rw [List.length_map]; exact h8
  refine run_setD (d := wD k (trimR (L.map fun z : Pr => ((z.1, 0) : Pr)))) (ev_callXD (k, L.map fun z : Pr => ((z.1, 0) : Pr)) (er_d (ev_ixT ev_var ev_int) (er_l (EvL.mono (el_cT (L := L) pD (fun _ => true) (fun z => pD (z.1, 0)) (ev_ixT ev_var ev_int) (by omega) fun z hz => ⟨_, tc_name, et_yes, fun _ => ev_is (ev_tup (ea_cons (ev_ixT ev_var ev_int) (ea_cons (ev_tup (ea_cons ev_int (ea_cons ev_int ea_nil))) ea_nil))) (show PyData.tuple [rt z.1, fr 0 1] = pD (z.1, 0) from congrArg (fun y => PyData.tuple [rt z.1, y]) (show fr 0 1 = rt 0 by kernel_rfl))⟩) fun ds e => ?_) er_nil)) (by dsimp only; omega)) ?_
  · rw [show ds = _ from e, filter_tt, List.map_map]
    rfl
  generalize hF : (L.map fun z : Pr => ((z.1, 0) : Pr)) = F at fl8
  have f0 : ∀ j, (gp (trimR F) j).2 = 0 := fun j => by
    unfold gp
    rw [trimR_get, ← hF, List.getD_eq_getElem?_getD, List.getElem?_map]
    cases L[j]? <;> rfl
  have fs : Sz 43 (trimR F) := by
    refine Sz.trim (Sz.of (by decide) fun y hy => ?_)
    rw [← hF] at hy
    obtain ⟨z, hz, rfl⟩ := List.mem_map.mp hy
    exact ⟨(hs.mem z hz).1, rb_zero (by decide)⟩
  have fw : Wv (trimR F) := wv_trim fl8
  refine run_ret (S := DrS) (ev_if (Sc := fun _ => True) (et_testP (EvD.mono (ev_eqI (ev_callWD (2 : Int) rfl (ea_cons ev_int ea_nil) ⟨by decide, by decide⟩) ev_int) fun d ⟨b, e⟩ => ⟨b, e, trivial⟩)) (fun _ => ev_call (ea3 (S := Is (wD k (trimR F))) (S2 := Is (.int g)) ev_var ev_var (ev_callWD () rfl ea_nil trivial)) ?_) fun _ => ev_call (ea2 (S := Is (wD k (trimR F))) ev_var (ev_callWD () rfl ea_nil trivial)) ?_) fun d e => e
  · rintro ds ⟨d, e, f, rfl, h1, h2, ⟨z, rfl, hz⟩⟩
    cases (show d = _ from h1)
    cases (show e = _ from h2)
    exact ⟨((k, trimR F), g, z), rfl, ⟨fw.1, fs, hg, hz, f0⟩, fun d ⟨M, e, hl, hm⟩ => ⟨k, M, e, like_wv hl fw, hm⟩⟩
  · rintro ds ⟨d, e, rfl, h1, ⟨z, rfl, hz⟩⟩
    cases (show d = _ from h1)
    exact ⟨((k, trimR F), z), rfl, ⟨fw.1, fs.mono (by decide), hz⟩, fun d e => ⟨k, turnC (trimR F) z, e, turnC_wv fw hz.nr, turnC_szF fs f0 fw.1 hz⟩⟩
end
end My
set_option Elab.async false
set_option linter.all false
set_option maxRecDepth 100000
set_option maxHeartbeats 4000000
namespace My
open PySem PySem.Spec PyProof.Rows L2 Vd Mt
section
variable {P : Program} {w : World} {K : PySem.W.Frag} {mg : Str → Option Value} {base : Heap} {c Ptb : Addr} [Sees P base]
/-- what is told of two steps: a turn of which both are powers, or that there is none -/
def JointS (a b : Stp) (d : PyData) : Prop := (∃ f, Ub 20000 f ∧ np f (a.1 / Nat.gcd a.1 b.1) = a.2 ∧ np f (b.1 / Nat.gcd a.1 b.1) = b.2 ∧ d = stD (Nat.gcd a.1 b.1, f)) ∨ (d = .none ∧ ¬ Sm a b)
theorem bez_t {j k : Nat} (hk : 0 < k) : ∃ t : Nat, t < k ∧ ((Nat.gcd j k : Nat) : Int) % k = ((t : Int) * j) % k := by
  obtain ⟨a, b, e⟩ := bez j k
  have k0 : (k : Int) ≠ 0 := by omega
  refine ⟨(a % k).toNat, ?_, ?_⟩
  · have := Int.emod_lt_of_pos a (show (0 : Int) < k by omega)
    have := Int.emod_nonneg a k0
    omega
  · rw [Int.toNat_of_nonneg (Int.emod_nonneg a k0), Int.mul_emod (a % k) j k, Int.emod_emod, ← Int.mul_emod, ← e, Int.add_mul_emod_self_right]
theorem ok_l_joint (T : Tx K mg) : FnOk P w K mg base CX0 48 T.f_l_joint T.fd_l_joint ["_law_one", "_law_two"] (spP K (fun a : Stp × Stp => [stD a.1, stD a.2]) (fun a => (1 ≤ a.1.1 ∧ a.1.1 ≤ 8 ∧ Ub 20000 a.1.2) ∧ (1 ≤ a.2.1 ∧ a.2.1 ≤ 8 ∧ Ub 20000 a.2.2)) fun a => JointS a.1 a.2) := by
  have G_l_cross := ok_l_cross (P := P) (w := w) (base := base) T
  have G_l_gcd := ok_l_gcd (P := P) (w := w) (base := base) T
  have G_l_climb := ok_l_climb (P := P) (w := w) (base := base) T
  refine fnP T.F_l_joint sc_l_joint (fun _ => rfl) (fun cdv A outer s H E a hr hp => ⟨_, (pss_cons (ps_asg (pe_tup (pa_cons (pv 0) (pa_cons (pv 1) pa_nil))) (pg_tup rfl (pgs_cons (pg_tup rfl (pgs_cons (pg_name (i := 2) sc_l_joint.nd rfl (.inl rfl)) (pgs_cons (pg_name (i := 3) sc_l_joint.nd rfl (.inl rfl)) pgs_nil))) (pgs_cons (pg_tup rfl (pgs_cons (pg_name (i := 4) sc_l_joint.nd rfl (.inl rfl)) (pgs_cons (pg_name (i := 5) sc_l_joint.nd rfl (.inl rfl)) pgs_nil))) pgs_nil))))
      (pss_cons (ps_par (i := 6) (j := 7) (by rfl) sc_l_joint.nd rfl rfl (by decide) rfl rfl (pa_cons (pe_call G_l_gcd (hr.mono (by omega)) (by rfl) T.m_l_gcd T.F_l_gcd.kp T.b_l_gcd .nil pass0 (pa_cons (pv 2) (pa_cons (pv 4) pa_nil))) (pa_cons pe_int pa_nil)) (by rfl))
      (pss_cons (ps_while PassesOwn.never (pt_cmpR (op_neD hr.units) (pe_op op_mod (pe_callTy call_int1 (by rfl) T.z_int (by decide +kernel) (pa_cons (pe_op op_sub (pv 6) (pe_op op_mulX (pv 7) (pv 2))) pa_nil)) (pv 4)) pe_int (nomark _))
        (pss_one (ps_set (i := 7) sc_l_joint.nd rfl (.inl rfl) (pe_op op_add (pv 7) pe_int))))
      (pss_cons (ps_set (i := 8) sc_l_joint.nd rfl (.inl rfl) (pe_call G_l_cross (hr.mono (by omega)) (by rfl) T.m_l_cross T.F_l_cross.kp T.b_l_cross .nil pass0 (pa_cons (pe_call G_l_climb (hr.mono (by omega)) (by rfl) T.m_l_climb T.F_l_climb.kp T.b_l_climb .nil pass0 (pa_cons (pv 3) (pa_cons (pv 7) pa_nil))) (pa_cons (pe_call G_l_climb (hr.mono (by omega)) (by rfl) T.m_l_climb T.F_l_climb.kp T.b_l_climb .nil pass0 (pa_cons (pv 5) (pa_cons (pe_op op_fdivW (pe_op op_sub (pv 6) (pe_op op_mulX (pv 7) (pv 2))) (pv 4)) pa_nil))) pa_nil))))
      (pss_cons (ps_if (PW.pt (pw_or (pt_cmpR (op_neD hr.units) (pe_call G_l_climb (hr.mono (by omega)) (by rfl) T.m_l_climb T.F_l_climb.kp T.b_l_climb .nil pass0 (pa_cons (pv 8) (pa_cons (pe_op op_fdivW (pv 2) (pv 6)) pa_nil))) (pv 3) (nomark _)) (pw_or1 (pt_cmpR (op_neD hr.units) (pe_call G_l_climb (hr.mono (by omega)) (by rfl) T.m_l_climb T.F_l_climb.kp T.b_l_climb .nil pass0 (pa_cons (pv 8) (pa_cons (pe_op op_fdivW (pv 4) (pv 6)) pa_nil))) (pv 5) (nomark _)))))
        (pss_one (ps_ret pe_non))
        pss_nil)
      (pss_one (ps_ret (pe_tup (pa_cons (pv 6) (pa_cons (pv 8) pa_nil)))))))))), ?_⟩)
  obtain ⟨⟨j, r⟩, ⟨k, v⟩⟩ := a
  obtain ⟨⟨j1, j8, hr1⟩, ⟨k1, k8, hv⟩⟩ := hp
  dsimp only at j1 j8 hr1 k1 k8 hv
  obtain ⟨g0, ej, ek⟩ := gd (k := k) (show 0 < j from j1)
  have gl : Nat.gcd j k ≤ 8 := Nat.le_trans (Nat.le_of_dvd j1 (Nat.gcd_dvd_left j k)) j8
  have eg : gc (j : Int) (k : Int) = ((Nat.gcd j k : Nat) : Int) := by unfold gc; rw [Int.natAbs_natCast, Int.natAbs_natCast]
  have dj : j / Nat.gcd j k ≤ 8 := Nat.le_trans (Nat.div_le_self _ _) j8
  have dk : k / Nat.gcd j k ≤ 8 := Nat.le_trans (Nat.div_le_self _ _) k8
  obtain ⟨t0, ht0, et0⟩ := bez_t (j := j) (show 0 < k from k1)
  have b5 : ∀ {i : Int}, -1000 ≤ i → i ≤ 1000 → bd 10 i := fun h1 h2 => by unfold bd; omega
  have tj : ∀ {t : Nat}, t ≤ t0 → (t : Int) * j ≤ 64 ∧ 0 ≤ (t : Int) * j := fun {t} ht => by
    have : t * j ≤ 8 * 8 := Nat.mul_le_mul (by omega) j8
    have e : ((t * j : Nat) : Int) = (t : Int) * j := Int.natCast_mul t j
    omega
  refine run_asgD (ev_tup (ea_cons ev_var (ea_cons ev_var ea_nil))) (tg_tup (tgs_cons (tg_tup (tgs_cons tg_name (tgs_cons tg_name tgs_nil))) (tgs_cons (tg_tup (tgs_cons tg_name (tgs_cons tg_name tgs_nil))) tgs_nil))) ?_
  refine run_parD (ea_cons (ev_is (ev_callD ((j : Int), (k : Int)) (ea_cons ev_var (ea_cons ev_var ea_nil)) trivial) (congrArg PyData.int eg)) (ea_cons ev_int ea_nil)) ?_
  refine run_seq (N1 := fun ρ' => ∃ t : Nat, t ≤ t0 ∧ ((Nat.gcd j k : Nat) : Int) % k = ((t : Int) * j) % k ∧ ρ' = [some (.d (stD (j, r))), some (.d (stD (k, v))), some (.d (.int (j : Int))), some (.d (pD r)), some (.d (.int (k : Int))), some (.d (pD v)), some (.d (.int ((Nat.gcd j k : Nat) : Int))), some (.d (.int (t : Int))), none])
    (run_while (fun m ρ' => ∃ t : Nat, t + m = t0 ∧ ρ' = [some (.d (stD (j, r))), some (.d (stD (k, v))), some (.d (.int (j : Int))), some (.d (pD r)), some (.d (.int (k : Int))), some (.d (pD v)), some (.d (.int ((Nat.gcd j k : Nat) : Int))), some (.d (.int (t : Int))), none]) t0 ⟨0, Nat.zero_add _, rfl⟩ fun m ρ' ⟨t, ht, e⟩ => ?_) fun ρ' hI => ?_
  · subst e
    obtain ⟨q1, q2⟩ := tj (t := t) (by omega)
    have em : ∀ {t : Nat}, (((Nat.gcd j k : Nat) : Int) - (t : Int) * j) % k = 0 ↔ ((Nat.gcd j k : Nat) : Int) % k = ((t : Int) * j) % k := fun {t} => Int.emod_eq_emod_iff_emod_sub_eq_zero.symm
    refine ⟨Is (!decide ((((Nat.gcd j k : Nat) : Int) - (t : Int) * j) % k = 0)), et_test (ev_is (ev_neD (ev_I (ev_int1 (ev_I0 ev_var (ev_I ev_var ev_var (mul_bd (n := 10) (b5 (by omega) (by omega)) (b5 (by omega) (by omega)))))) ev_var (by show (0 : Int) < _; omega)) ev_int rfl rfl) (congrArg (fun b => PyData.bool (!b)) (Bool.beq_eq_decide_eq _ _))), fun z => ?_, fun z => ?_⟩
    · have hn : ¬ (((Nat.gcd j k : Nat) : Int) - (t : Int) * j) % k = 0 := fun e => by rw [decide_eq_true e] at z; exact nomatch (show true = false from z)
      have m0 : m ≠ 0 := fun e => hn (em.mpr (by rw [show t = t0 by omega]; exact et0))
      refine run_set (ev_is (ev_I0 ev_var ev_int) (congrArg PyData.int (show (t : Int) + 1 = ((t + 1 : Nat) : Int) by omega))) fun d e => ?_
      cases (show d = _ from e)
      exact ⟨m - 1, by omega, t + 1, by omega, rfl⟩
    · have hy : (((Nat.gcd j k : Nat) : Int) - (t : Int) * j) % k = 0 := Classical.byContradiction fun n => by rw [decide_eq_false n] at z; exact nomatch (show false = true from z)
      exact ⟨t, by omega, em.mp hy, rfl⟩
  obtain ⟨t, ht, em, rfl⟩ := hI
  obtain ⟨q1, q2⟩ := tj ht
  have ed : (k : Int) ∣ ((Nat.gcd j k : Nat) : Int) - (t : Int) * j := Int.dvd_of_emod_eq_zero (Int.emod_eq_emod_iff_emod_sub_eq_zero.mp em)
  obtain ⟨y, hy⟩ := ed
  have ey : (((Nat.gcd j k : Nat) : Int) - (t : Int) * j) / k = y := by rw [hy]; exact Int.mul_ediv_cancel_left _ (by omega)
  have ebz : (t : Int) * j + y * k = ((Nat.gcd j k : Nat) : Int) := by rw [Int.mul_comm y]; omega
  have g8 : ((Nat.gcd j k : Nat) : Int) ≤ 8 := by omega
  have yb : y.natAbs ≤ 8 := by
    have tk : (t : Int) * j ≤ ((k : Int) - 1) * j := Int.mul_le_mul_of_nonneg_right (by omega) (by omega)
    have e1 : ((k : Int) - 1) * j = (k : Int) * j - j := by rw [Int.sub_mul, Int.one_mul]
    have a : 0 < (k : Int) * (y + j) := by rw [Int.mul_add, ← hy]; omega
    have b : 0 < y + (j : Int) := Int.pos_of_mul_pos_right a (by omega)
    have c : (k : Int) * y ≤ k * 8 := by
      rw [← hy]
      have : (1 : Int) * 8 ≤ (k : Int) * 8 := Int.mul_le_mul_of_nonneg_right (by omega) (by decide)
      omega
    have d : y ≤ 8 := Int.le_of_mul_le_mul_left c (by omega)
    omega
  have t8 : (t : Int).natAbs ≤ 8 := by omega
  have ur : Ub 200000 (zp r (t : Int)) := (hr1.zp _).mono (by omega)
  have uv : Ub 200000 (zp v y) := (hv.zp _).mono (by omega)
  have uf : Ub 400000 (cmu (zp r (t : Int)) (zp v y)) := (ur.mul uv).mono (by omega)
  have r8 := (ur.mono (m := 8000000) (by decide)).rb
  have v8 := (uv.mono (m := 8000000) (by decide)).rb
  have gb : bd 4 ((Nat.gcd j k : Nat) : Int) := by unfold bd; omega
  have root := fun h => root_is (j := j) (k := k) (show 0 < j from j1) hr1.nr hv.nr (r := r) (s := v) h ebz
  refine run_setD (d := pD (cmu (zp r (t : Int)) (zp v y))) (ev_callD (zp r (t : Int), zp v y) (ea_cons (ev_callD (r, (t : Int)) (ea_cons ev_var (ea_cons ev_var ea_nil)) ⟨20000, hr1, by omega, by omega⟩) (ea_cons (ev_callD (v, y) (ea_cons ev_var (ea_cons (ev_is (ev_I (ev_I0 ev_var (ev_I ev_var ev_var (mul_bd (n := 10) (b5 (by omega) (by omega)) (b5 (by omega) (by omega))))) ev_var (fdiv_ok (n := 10) (by omega) (b5 (by omega) (by omega)))) (congrArg PyData.int ey)) ea_nil)) ⟨20000, hv, by dsimp only; omega, by dsimp only; omega⟩) ea_nil)) ⟨r8, v8⟩) ?_
  have c1 : ∀ {ρ : Rho} {te tf : TE} {n : Nat}, n ≤ 8 → EvD K none te ρ (Is (pD (cmu (zp r (t : Int)) (zp v y)))) → EvD K none tf ρ (Is (.int (n : Int))) → EvD K none (tCall (spP K (fun a : Pr × Int => [pD a.1, .int a.2]) (fun a => ∃ n, Ub n a.1 ∧ n * (a.2.natAbs + 1) ≤ 4000000 ∧ a.2.natAbs ≤ 1000) fun a => Is (pD (zp a.1 a.2))) [] E0 (tCons te (tCons tf tNil))) ρ (Is (pD (np (cmu (zp r (t : Int)) (zp v y)) n))) := fun {ρ te tf n} hn h1 h2 => ev_is (ev_callD (cmu (zp r (t : Int)) (zp v y), (n : Int)) (ea_cons h1 (ea_cons h2 ea_nil)) ⟨400000, uf, by dsimp only; omega, by dsimp only; omega⟩) (congrArg pD (zp_nat _ _))
  refine run_ifsD (b := !decide (np (cmu (zp r (t : Int)) (zp v y)) (j / Nat.gcd j k) = r) || !decide (np (cmu (zp r (t : Int)) (zp v y)) (k / Nat.gcd j k) = v)) (et_or (et_test (ev_is (ev_neD (c1 dj ev_var (ev_is (ev_I (i := (j : Int)) ev_var ev_var (fdiv_ok (n := 4) (by omega) gb)) (congrArg PyData.int (Int.natCast_ediv j _).symm))) ev_var rfl rfl) (congrArg (fun b => PyData.bool (!b)) (eqv_pDD _ _)))) fun _ => et_test (ev_is (ev_neD (c1 dk ev_var (ev_is (ev_I (i := (k : Int)) ev_var ev_var (fdiv_ok (n := 4) (by omega) gb)) (congrArg PyData.int (Int.natCast_ediv k _).symm))) ev_var rfl rfl) (congrArg (fun b => PyData.bool (!b)) (eqv_pDD _ _)))) (fun z => ?_) fun z => run_skip ?_
  · refine run_reta ev_non fun d e => .inr ⟨e, fun h => ?_⟩
    obtain ⟨_, h1, h2⟩ := root h
    rw [decide_eq_true h1, decide_eq_true h2] at z
    exact nomatch z
  · rw [Bool.or_eq_false_iff] at z
    have h1 : np (cmu (zp r (t : Int)) (zp v y)) (j / Nat.gcd j k) = r := Classical.byContradiction fun n => by rw [decide_eq_false n] at z; exact nomatch z.1
    have h2 : np (cmu (zp r (t : Int)) (zp v y)) (k / Nat.gcd j k) = v := Classical.byContradiction fun n => by rw [decide_eq_false n] at z; exact nomatch z.2
    have j0 : 0 < j / Nat.gcd j k := Nat.div_pos (Nat.le_of_dvd j1 (Nat.gcd_dvd_left j k)) g0
    exact run_ret (ev_tup (ea_cons ev_var (ea_cons ev_var ea_nil))) fun d e => .inl ⟨_, ub_root uf hr1 h1 j0, h1, h2, e⟩
theorem firsts_eqv (L M : List Nat) : PyData.eqv (.list (L.map fun i => PyData.int ((1 + i : Nat) : Int))) (.list (M.map fun i => PyData.int ((1 + i : Nat) : Int))) = decide (L = M) := by
  show PyData.eqvAll _ _ = _
  induction L generalizing M with
  | nil =>
    cases M with
    | nil => rfl
    | cons m M => rfl
  | cons l L ih =>
    cases M with
    | nil => rfl
    | cons m M =>
      show (((1 + l : Nat) : Int) == ((1 + m : Nat) : Int) && PyData.eqvAll (L.map fun i => PyData.int ((1 + i : Nat) : Int)) (M.map fun i => PyData.int ((1 + i : Nat) : Int))) = _
      rw [ih]
      by_cases a : l = m
      · subst a
        simp
      · have : (((1 + l : Nat) : Int) == ((1 + m : Nat) : Int)) = false := beq_eq_false_iff_ne.mpr (by omega)
        rw [this, Bool.false_and]
        exact (decide_eq_false fun e => a (List.cons.inj e).1).symm
abbrev stAt (L M : List Pr) (i : Nat) : Stp := (1 + i, stp (gp L i) (gp M i))
/-- what is told of two waves: something, unless they are not alike -/
def SettledS (L M : List Pr) (d : PyData) : Prop := (AL L M ∧ ∃ l, d = .tuple l) ∨ (¬ AL L M ∧ d = .none)
theorem ok_l_settled (T : Tx K mg) : FnOk P w K mg base CX0 49 T.f_l_settled T.fd_l_settled ["_law_one", "_law_two"] (spP K (fun a : (Rat × List Pr) × Rat × List Pr => [wD a.1.1 a.1.2, wD a.2.1 a.2.2]) (fun a => (Wv a.1.2 ∧ Sz 1000 a.1.2) ∧ (Wv a.2.2 ∧ Sz 1000 a.2.2)) fun a => SettledS a.1.2 a.2.2) := by
  have G_l_numbers := ok_l_numbers (P := P) (w := w) (base := base) T
  have G_l_dot := ok_l_dot (P := P) (w := w) (base := base) T
  have G_l_shared := ok_l_shared (P := P) (w := w) (base := base) T
  have G_l_joint := ok_l_joint (P := P) (w := w) (base := base) T
  refine fnP T.F_l_settled sc_l_settled (fun _ => rfl) (fun cdv A outer s H E a hr hp => ⟨_, (pss_cons (ps_par3 (i := 2) (j := 3) (l := 4) (by rfl) sc_l_settled.nd rfl rfl rfl (by decide) (by decide) (by decide) rfl rfl rfl (pa_cons (pe_call G_l_numbers (hr.mono (by omega)) (by rfl) T.m_l_numbers T.F_l_numbers.kp T.b_l_numbers .nil pass0 (pa_cons (pv 0) pa_nil)) (pa_cons (pe_call G_l_numbers (hr.mono (by omega)) (by rfl) T.m_l_numbers T.F_l_numbers.kp T.b_l_numbers .nil pass0 (pa_cons (pv 1) pa_nil)) (pa_cons (pe_tup (pa_cons pe_int (pa_cons (pe_tup (pa_cons (pe_tup (pa_cons pe_int (pa_cons pe_int pa_nil))) (pa_cons (pe_tup (pa_cons pe_int (pa_cons pe_int pa_nil))) pa_nil))) pa_nil))) pa_nil))) (by rfl))
      (pss_cons (ps_if (pt_cmpR (op_neD hr.units) (pe_lc (own := [("_law_each", 8)]) (g := gName 8) (by rfl) sc_l_settled.nd (pi_list (pv 2)) (blkOk_by (own := [("_law_each", 8)]) (N := N_l_settled) (sc := defScope s_l_settled) (by decide +kernel)) (fun _ _ _ _ _ => (pg_name (i := 8) sc_l_settled.nd rfl (Or.inl rfl))) (fun _ _ _ _ _ => pts_nil) (fun _ _ _ _ _ => (pe_ix (ix_tupK (K := K) rfl) (pv 8) pe_int (fun _ _ => rfl)))) (pe_lc (own := [("_law_each", 8)]) (g := gName 8) (by rfl) sc_l_settled.nd (pi_list (pv 3)) (blkOk_by (own := [("_law_each", 8)]) (N := N_l_settled) (sc := defScope s_l_settled) (by decide +kernel)) (fun _ _ _ _ _ => (pg_name (i := 8) sc_l_settled.nd rfl (Or.inl rfl))) (fun _ _ _ _ _ => pts_nil) (fun _ _ _ _ _ => (pe_ix (ix_tupK (K := K) rfl) (pv 8) pe_int (fun _ _ => rfl)))) (nomark _))
        (pss_one (ps_ret pe_non))
        pss_nil)
      (pss_cons (ps_for PassesOwn.never rfl (pi_m (by rfl) T.z_zip (pa_cons (pv 2) (pa_cons (pv 3) pa_nil))) (pg_tup rfl (pgs_cons (pg_name (i := 5) sc_l_settled.nd rfl (.inl rfl)) (pgs_cons (pg_name (i := 6) sc_l_settled.nd rfl (.inl rfl)) pgs_nil)))
        (pss_cons (ps_if (pt_cmpR (op_neD hr.units) (pe_call G_l_dot (hr.mono (by omega)) (by rfl) T.m_l_dot T.F_l_dot.kp T.b_l_dot .nil pass0 (pa_cons (pe_ix ix_tup (pv 5) pe_int (fun _ _ => rfl)) (pa_cons (pe_ix ix_tup (pv 5) pe_int (fun _ _ => rfl)) pa_nil))) (pe_call G_l_dot (hr.mono (by omega)) (by rfl) T.m_l_dot T.F_l_dot.kp T.b_l_dot .nil pass0 (pa_cons (pe_ix ix_tup (pv 6) pe_int (fun _ _ => rfl)) (pa_cons (pe_ix ix_tup (pv 6) pe_int (fun _ _ => rfl)) pa_nil))) (nomark _))
          (pss_one (ps_ret pe_non))
          pss_nil)
        (pss_cons (ps_set (i := 7) sc_l_settled.nd rfl (.inl rfl) (pe_tup (pa_cons (pe_ix ix_tup (pv 5) pe_int (fun _ _ => rfl)) (pa_cons (pe_call G_l_shared (hr.mono (by omega)) (by rfl) T.m_l_shared T.F_l_shared.kp T.b_l_shared .nil pass0 (pa_cons (pe_ix ix_tup (pv 5) pe_int (fun _ _ => rfl)) (pa_cons (pe_ix ix_tup (pv 6) pe_int (fun _ _ => rfl)) pa_nil))) pa_nil))))
        (pss_cons (ps_set (i := 4) sc_l_settled.nd rfl (.inl rfl) (pe_ifExp (pt_cmpR (op_eqD hr.units) (pe_ix ix_tup (pv 4) pe_int (fun _ _ => rfl)) pe_int (nomark _)) (pv 7) (pe_call G_l_joint (hr.mono (by omega)) (by rfl) T.m_l_joint T.F_l_joint.kp T.b_l_joint .nil pass0 (pa_cons (pv 4) (pa_cons (pv 7) pa_nil)))))
        (pss_one (ps_if (pt_cmpR op_isN (pv 4) pe_non (nomark _))
          (pss_one (ps_ret pe_non))
          pss_nil))))))
      (pss_one (ps_ret (pv 4)))))), ?_⟩)
  obtain ⟨⟨k, L⟩, ⟨k', M⟩⟩ := a
  obtain ⟨⟨hw, hL⟩, ⟨hw', hM⟩⟩ := hp
  dsimp only at hw hL hw' hM
  have l8 : L.length ≤ 8 := hw.1
  have m8 : M.length ≤ 8 := hw'.1
  have hl : ∀ {N : List Pr}, N.length ≤ 8 → (harm N).length ≤ 8 := fun {N} h => by
    have := List.length_filter_le (fun i => decide (N.getD i (0, 0) ≠ (0, 0))) (List.range N.length)
    rw [List.length_range] at this
    unfold harm
    omega
  refine run_parLL3 (EvL.mono (el_callXD (k, L) (er_d ev_var er_nil) l8) fun ds e => e) (EvL.mono (el_callXD (k', M) (er_d ev_var er_nil) m8) fun ds e => e) (ev_tup (ds := [.int 0, pD c1]) (ea_cons ev_int (ea_cons (ev_tup (ea_cons (ev_tup (ea_cons ev_int (ea_cons ev_int ea_nil))) (ea_cons (ev_tup (ea_cons ev_int (ea_cons ev_int ea_nil))) ea_nil))) ea_nil))) ?_
  have shp : ∀ N : List Nat, SeqAt.shaped (.list (N.map fun i => PyData.int ((1 + i : Nat) : Int))) = true := fun N => by
    have := shaped_iL (N.map fun i => ((1 + i : Nat) : Int))
    rw [List.map_map] at this
    exact this
  refine run_ifsD (b := !decide (harm L = harm M)) (et_test (ev_is (ev_neLL (ds := (harm L).map fun i => PyData.int ((1 + i : Nat) : Int)) (es := (harm M).map fun i => PyData.int ((1 + i : Nat) : Int)) (EvL.mono (el_cL (L := harm L) (numD L) (fun _ => true) (fun i => PyData.int ((1 + i : Nat) : Int)) (.inl rfl) (Nat.le_trans (hl l8) (by decide)) fun i hm => ⟨_, tc_name, et_yes, fun _ => ev_ixT (ds := [.int ((1 + i : Nat) : Int), pD (cc (gp L i))]) ev_var ev_int⟩) fun ds e => by rw [show ds = _ from e, filter_tt]; rfl) (EvL.mono (el_cL (L := harm M) (numD M) (fun _ => true) (fun i => PyData.int ((1 + i : Nat) : Int)) (.inl rfl) (Nat.le_trans (hl m8) (by decide)) fun i hm => ⟨_, tc_name, et_yes, fun _ => ev_ixT (ds := [.int ((1 + i : Nat) : Int), pD (cc (gp M i))]) ev_var ev_int⟩) fun ds e => by rw [show ds = _ from e, filter_tt]; rfl) (shp _) (shp _)) (congrArg (fun b => PyData.bool (!b)) (firsts_eqv _ _)))) (fun z => ?_) fun z => run_skip ?_
  · have hn : ¬ harm L = harm M := fun e => by rw [decide_eq_true e] at z; exact nomatch z
    exact run_reta ev_non fun d e => .inr ⟨fun h => hn (harm_congr (nz_iff h.1)), e⟩
  have hh : harm L = harm M := Classical.byContradiction fun n => by rw [decide_eq_false n] at z; exact nomatch z
  refine run_ro (i := 2) (ds := (harm L).map (numD L)) rfl ?_
  refine run_ro (i := 3) (ds := (harm M).map (numD M)) rfl ?_
  have stOf : ∀ {i : Nat}, i ∈ harm L → nr (gp L i) = nr (gp M i) → 1 ≤ 1 + i ∧ 1 + i ≤ 8 ∧ Ub 20000 (stp (gp L i) (gp M i)) := fun {i} hi hn => by
    have hi' := mem_harm.mp hi
    have il : i < L.length := by
      rcases Nat.lt_or_ge i L.length with c | c
      · exact c
      · exact absurd (gp_ge c) hi'
    have sb := stp_rb (n := 1000) (m := 1000) hi' (hL i) (hM i)
    exact ⟨by omega, by omega, (ub_of (stp_nr hi' hn) sb.1 sb.2).mono (by decide)⟩
  refine run_seq (N1 := fun ρ' => ∃ (D : Nat) (v : Pr) (o5 o6 o7 : Option Sl), AL L M ∧ ρ' = [some (.d (wD k L)), some (.d (wD k' M)), some (.ro ((harm L).map (numD L))), some (.ro ((harm M).map (numD M))), some (.d (stD (D, v))), o5, o6, o7, none])
    (run_forZR (i0 := 2) (j0 := 3) (ds := (harm L).map (numD L)) (es := (harm M).map (numD M)) rfl rfl (fun m ρ' => ∃ (D : Nat) (v : Pr) (o5 o6 o7 : Option Sl), (m = 0 → D = 0) ∧ (0 < m → Rep (((harm L).take m).map (stAt L M)) D v ∧ Ub 20000 v ∧ D ≤ 8) ∧ (∀ i ∈ (harm L).take m, nr (gp L i) = nr (gp M i)) ∧ ρ' = [some (.d (wD k L)), some (.d (wD k' M)), some (.ro ((harm L).map (numD L))), some (.ro ((harm M).map (numD M))), some (.d (stD (D, v))), o5, o6, o7, none])
      ⟨0, c1, none, none, none, fun _ => rfl, fun h => absurd h (Nat.lt_irrefl _), fun i h => (by simp at h), rfl⟩ (fun m d e ρ' hd he hI => ?_) fun ρ' hI => ?_) fun ρ' hI => ?_
  · obtain ⟨D, v, o5, o6, o7, hD0, hD, hN, rfl⟩ := hI
    rw [← hh, List.getElem?_map] at he
    rw [List.getElem?_map] at hd
    cases ej : (harm L)[m]? with
    | none => rw [ej] at hd; cases hd
    | some i =>
      rw [ej] at hd he
      cases hd
      cases he
      have hi := List.mem_of_getElem? ej
      have tk : (harm L).take (m + 1) = (harm L).take m ++ [i] := by rw [List.take_add_one, ej]; rfl
      have up : ∀ {x : Rat}, Rb 1000 x → Rb 8000000 x := fun h => h.mono (by decide)
      have eL : dt (cc (gp L i)) (cc (gp L i)) = nr (gp L i) := by simp only [dt, cc, nr]; grind
      have eM : dt (cc (gp M i)) (cc (gp M i)) = nr (gp M i) := by simp only [dt, cc, nr]; grind
      have bL : Rb 8000000 (cc (gp L i)).1 ∧ Rb 8000000 (cc (gp L i)).2 := ⟨up (hL i).1, up (neg_rb (hL i).2)⟩
      have bM : Rb 8000000 (cc (gp M i)).1 ∧ Rb 8000000 (cc (gp M i)).2 := ⟨up (hM i).1, up (neg_rb (hM i).2)⟩
      refine ⟨_, tg_tup (tgs_cons tg_name (tgs_cons tg_name tgs_nil)), ?_⟩
      refine run_ifsD (b := !decide (nr (gp L i) = nr (gp M i))) (et_test (ev_is (ev_neD (ev_is (ev_callD (cc (gp L i), cc (gp L i)) (ea_cons (ev_ixT (ds := [.int ((1 + i : Nat) : Int), pD (cc (gp L i))]) ev_var ev_int) (ea_cons (ev_ixT (ds := [.int ((1 + i : Nat) : Int), pD (cc (gp L i))]) ev_var ev_int) ea_nil)) ⟨bL, bL⟩) (congrArg rt eL)) (ev_is (ev_callD (cc (gp M i), cc (gp M i)) (ea_cons (ev_ixT (ds := [.int ((1 + i : Nat) : Int), pD (cc (gp M i))]) ev_var ev_int) (ea_cons (ev_ixT (ds := [.int ((1 + i : Nat) : Int), pD (cc (gp M i))]) ev_var ev_int) ea_nil)) ⟨bM, bM⟩) (congrArg rt eM)) rfl rfl) (congrArg (fun b => PyData.bool (!b)) (eqv_rt _ _)))) (fun z => ?_) fun z => run_skip ?_
      · have hn : ¬ nr (gp L i) = nr (gp M i) := fun e => by rw [decide_eq_true e] at z; exact nomatch z
        exact run_reta ev_non fun d e => .inr ⟨fun h => hn (h.1 i), e⟩
      have hn : nr (gp L i) = nr (gp M i) := Classical.byContradiction fun n => by rw [decide_eq_false n] at z; exact nomatch z
      have st := stOf hi hn
      refine run_setD (d := stD (stAt L M i)) (ev_tup (ea_cons (ev_ixT (ds := [.int ((1 + i : Nat) : Int), pD (cc (gp L i))]) ev_var ev_int) (ea_cons (ev_callD (gp L i, gp M i) (ea_cons (ev_ixT (ds := [.int ((1 + i : Nat) : Int), pD (cc (gp L i))]) ev_var ev_int) (ea_cons (ev_ixT (ds := [.int ((1 + i : Nat) : Int), pD (cc (gp M i))]) ev_var ev_int) ea_nil)) ⟨mem_harm.mp hi, hL i, hM i⟩) ea_nil))) ?_
      have hN' : ∀ q ∈ (harm L).take (m + 1), nr (gp L q) = nr (gp M q) := fun q hq => by
        rw [tk] at hq
        rcases List.mem_append.mp hq with h | h
        · exact hN q h
        · rw [List.mem_singleton.mp h]; exact hn
      have sok : SOk (((harm L).take m).map (stAt L M)) := fun z hz => by
        obtain ⟨q, hq, rfl⟩ := List.mem_map.mp hz
        have a := stOf (List.mem_of_mem_take hq) (hN q hq)
        exact ⟨by show 0 < 1 + q; omega, a.2.2.nr⟩
      have e0 : PyData.eqv (.int (D : Int)) (.int 0) = decide (D = 0) := by
        show (((D : Nat) : Int) == 0) = _
        by_cases c : D = 0
        · subst c; rfl
        · rw [decide_eq_false c]; exact beq_eq_false_iff_ne.mpr (by omega)
      refine run_sets (S := fun d => (D = 0 ∧ d = stD (stAt L M i)) ∨ (D ≠ 0 ∧ JointS (D, v) (stAt L M i) d)) (ev_ifD (b := decide (D = 0)) (et_test (ev_is (ev_eqD (ev_ixT (ds := [.int (D : Int), pD v]) ev_var ev_int) ev_int rfl rfl) (congrArg PyData.bool e0))) (fun z => EvD.mono ev_var fun d e => .inl ⟨of_decide_eq_true z, e⟩) fun z => ?_) fun d hd => ?_
      · have z' := of_decide_eq_false z
        have m0 : 0 < m := by
          rcases Nat.eq_zero_or_pos m with c | c
          · exact absurd (hD0 c) z'
          · exact c
        obtain ⟨R, uv, d8⟩ := hD m0
        exact EvD.mono (ev_callD ((D, v), stAt L M i) (ea_cons ev_var (ea_cons ev_var ea_nil)) ⟨⟨R.pos, d8, uv⟩, st⟩) fun d h => .inr ⟨z', h⟩
      rcases hd with ⟨hz, rfl⟩ | ⟨hz, hJ⟩
      · have m0 : m = 0 := by
          rcases Nat.eq_zero_or_pos m with c | c
          · exact c
          · have := (hD c).1.pos; omega
        subst m0
        refine run_ifD (et_test (ev_isNT ev_var (.inr ⟨_, rfl⟩))) (fun z => nomatch (show false = true from z)) fun _ => run_next ?_
        refine ⟨1 + i, stp (gp L i) (gp M i), _, _, _, fun h => absurd h (by omega), fun _ => ⟨?_, st.2.2, st.2.1⟩, hN', rfl⟩
        rw [tk]
        exact rep_one (z := stAt L M i) st.1 st.2.2.nr
      · have m0 : 0 < m := by
          rcases Nat.eq_zero_or_pos m with c | c
          · exact absurd (hD0 c) hz
          · exact c
        obtain ⟨R, uv, d8⟩ := hD m0
        rcases hJ with ⟨f, uf, h1, h2, rfl⟩ | ⟨rfl, hns⟩
        · refine run_ifD (et_test (ev_isNT ev_var (.inr ⟨_, rfl⟩))) (fun z => nomatch (show false = true from z)) fun _ => run_next ?_
          refine ⟨_, f, _, _, _, fun h => absurd h (by omega), fun _ => ⟨?_, uf, Nat.le_trans (Nat.le_of_dvd R.pos (Nat.gcd_dvd_left _ _)) d8⟩, hN', rfl⟩
          rw [tk, List.map_append]
          exact rep_step R sok (b := stAt L M i) st.1 st.2.2.nr uf.nr h1 h2
        · refine run_ifD (et_test (ev_isNT ev_var (.inl rfl))) (fun _ => run_retD ev_non (.inr ⟨fun h => hns ?_, rfl⟩)) fun z => nomatch (show true = false from z)
          refine R.go _ st.1 st.2.2.nr fun z hz => ?_
          have pw : ((harm L).take (m + 1)).map (stAt L M) |>.Pairwise Sm := by
            rw [List.map_take]
            exact h.2.sublist (List.take_sublist _ _)
          rw [tk, List.map_append, List.pairwise_append] at pw
          exact pw.2.2 z hz _ (List.mem_singleton.mpr rfl)
  · obtain ⟨D, v, o5, o6, o7, hD0, hD, hN, e⟩ := hI
    rw [List.length_map, List.length_map, ← hh, Nat.min_self, List.take_length] at hN hD
    refine ⟨D, v, o5, o6, o7, ⟨fun j => ?_, ?_⟩, e⟩
    · by_cases c : j ∈ harm L
      · exact hN j c
      · have a : gp L j = (0, 0) := Classical.byContradiction fun n => c (mem_harm.mpr n)
        have b : gp M j = (0, 0) := Classical.byContradiction fun n => c (by rw [hh]; exact mem_harm.mpr n)
        rw [a, b]
    · rw [List.pairwise_iff_getElem]
      intro x y hx hy hxy
      have lp : 0 < (harm L).length := by
        have : (zsL L M).length = (harm L).length := List.length_map ..
        omega
      obtain ⟨R, _, _⟩ := hD lp
      exact rep_pair R (fun z hz => by
        obtain ⟨q, hq, rfl⟩ := List.mem_map.mp hz
        have a := stOf hq (hN q hq)
        exact ⟨by show 0 < 1 + q; omega, a.2.2.nr⟩) (List.getElem_mem hx) (List.getElem_mem hy)
  obtain ⟨D, v, o5, o6, o7, hA, rfl⟩ := hI
  exact run_ret ev_var fun d e => .inl ⟨hA, _, e⟩
end
end My
set_option Elab.async false
set_option linter.all false
set_option maxRecDepth 100000
set_option maxHeartbeats 4000000
namespace My
open PySem PySem.Spec PyProof.Rows L2 Vd Mt
section
variable {P : Program} {w : World} {K : PySem.W.Frag} {mg : Str → Option Value} {base : Heap} {c Ptb : Addr} [Sees P base]
theorem ok_l_are_alike (T : Tx K mg) : FnOk P w K mg base CX0 50 T.f_l_are_alike T.fd_l_are_alike ["_law_one", "_law_two"] (spP K (fun a : (Rat × List Pr) × Rat × List Pr => [wD a.1.1 a.1.2, wD a.2.1 a.2.2]) (fun a => (Wv a.1.2 ∧ Sz 1000 a.1.2) ∧ (Wv a.2.2 ∧ Sz 1000 a.2.2)) fun a => Is (.bool (alB a.1.1 a.2.1 a.1.2 a.2.2))) := by
  have G_l_settled := ok_l_settled (P := P) (w := w) (base := base) T
  refine fnP T.F_l_are_alike sc_l_are_alike (fun _ => rfl) (fun cdv A outer s H E a hr hp => ⟨_, (pss_one (ps_ret (pe_and (pe_cmpR (op_eqD hr.units) (pe_ix ix_tup (pv 0) pe_int (fun _ _ => rfl)) (pe_ix ix_tup (pv 1) pe_int (fun _ _ => rfl)) (nomark _)) (pe_one (pe_cmpR op_notN (pe_call G_l_settled (hr.mono (by omega)) (by rfl) T.m_l_settled T.F_l_settled.kp T.b_l_settled .nil pass0 (pa_cons (pv 0) (pa_cons (pv 1) pa_nil))) pe_non (nomark _)))))), ?_⟩)
  obtain ⟨⟨k, L⟩, ⟨k', M⟩⟩ := a
  refine run_ret (S := Is (.bool (decide (k = k') && !!alB k k L M))) (ev_andV (ev_is (ev_eqD (ev_ixT ev_var ev_int) (ev_ixT ev_var ev_int) rfl rfl) (congrArg PyData.bool (eqv_rt k k'))) fun _ => ev_notNS (ev_callD ((k, L), (k', M)) (ea_cons ev_var (ea_cons ev_var ea_nil)) hp) fun d h => ?_) fun d e => ?_
  · rcases h with ⟨h, l, rfl⟩ | ⟨h, rfl⟩
    · exact ⟨.inr ⟨l, rfl⟩, by rw [alB_iff.mpr ⟨rfl, h⟩]; rfl⟩
    · exact ⟨.inl rfl, by rw [Bool.eq_false_iff.mpr fun z => h (alB_iff.mp z).2]; rfl⟩
  · show d = _
    rw [show d = _ from e]
    congr 1
    unfold alB
    rw [decide_eq_true rfl, Bool.true_and, Bool.not_not]
end
end My
set_option Elab.async false
set_option linter.all false
set_option maxRecDepth 100000
set_option maxHeartbeats 4000000
namespace My
open PySem PySem.Spec PyProof.Rows L2 Vd Mt
section
variable {P : Program} {w : World} {K : PySem.W.Frag} {mg : Str → Option Value} {base : Heap} {c Ptb : Addr} [Sees P base]
theorem mod4_dec (a g : Nat) : ((((a : Int) * (g : Int)) % 4) == 0) = decide ((a * g) % 4 = 0) := by
  rw [Bool.beq_eq_decide_eq]
  apply decide_eq_decide.mpr
  rw [← Int.natCast_mul]
  omega
theorem turnC_sz2 {L : List Pr} {s : Pr} (hL : Sz 243 L) (h8 : L.length ≤ 8) (hs : Ub 21 s) : Sz 1000 (turnC L s) := fun j => by
  rcases Nat.lt_or_ge j L.length with c | c
  · have e := turnC_get L s j
    unfold gp at e
    rw [e]
    have a := ((hs.np (j + 1)).mono (m := 200) (by omega)).rb
    have b := cmu_rb (n := 243) (m := 200) (z := cc (L.getD j (0, 0))) ⟨(hL j).1, neg_rb (hL j).2⟩ a
    exact ⟨b.1.mono (by decide), neg_rb (b.2.mono (by decide))⟩
  · rw [show (turnC L s).getD j (0, 0) = (0, 0) from gp_ge (by rw [turnC_len]; exact c)]
    exact ⟨rb_zero (by decide), rb_zero (by decide)⟩
theorem gH_congr {L M : List Pr} (h : ∀ j, gp L j = (0, 0) ↔ gp M j = (0, 0)) : gH L = gH M := by
  unfold gH
  rw [harm_congr h]
theorem gH_mir (L : List Pr) : gH (mir L) = gH L := gH_congr fun j => by
  rw [gp_mir]
  exact ⟨cc_nz, fun h => by rw [h]; exact cc_zero⟩
theorem gH_turn (L : List Pr) {z : Pr} (nz : nr z = 1) : gH (turnC L z) = gH L := gH_congr fun j => by
  rw [turnC_get]
  refine ⟨fun h => cc_nz (cmu_nz (nr_np nz _) (cc_nz h)), fun h => ?_⟩
  rw [h, cc_zero]
  simp only [cmu, cc, Prod.mk.injEq]
  constructor <;> grind
def unD (g : Nat) : PyData := if g = 0 then .none else .tuple ((uns g).map tH)
def unS (g : Nat) : PyData := .tuple (((List.range 4).filter fun a => decide ((a * g) % 4 = 0)).map fun a => pD (np (0, 1) a))
theorem unD_ok {g : Nat} (h8 : g ≤ 8) : (unD g).showable = true ∧ (unD g).depth ≤ 30 ∧ (unD g).shown.length ≤ 10000000 := by
  have : g = 0 ∨ g = 1 ∨ g = 2 ∨ g = 3 ∨ g = 4 ∨ g = 5 ∨ g = 6 ∨ g = 7 ∨ g = 8 := by omega
  rcases this with rfl | rfl | rfl | rfl | rfl | rfl | rfl | rfl | rfl <;> exact ⟨by decide +kernel, by decide +kernel, by decide +kernel⟩
theorem unS_eq {g : Nat} (h1 : g ≠ 0) (h8 : g ≤ 8) : unS g = unD g := by
  have : g = 1 ∨ g = 2 ∨ g = 3 ∨ g = 4 ∨ g = 5 ∨ g = 6 ∨ g = 7 ∨ g = 8 := by omega
  rcases this with rfl | rfl | rfl | rfl | rfl | rfl | rfl | rfl <;> kernel_rfl
theorem ok_l_right (T : Tx K mg) (TB : LamX.TabB base mg c Ptb) (hcd : T.fd_in_order.code = .ref c) (hP : tabOf K = some Ptb) : FnG P w K mg base 51 T.f_l_right T.fd_l_right ["_law_tap_here"] (spW K (fun _ : Unit => []) (fun _ => True) fun _ => Is (.bool true)) := by
  have G_l_drawn := ok_l_drawn (P := P) (w := w) (base := base) T
  have G_l_common := ok_l_common (P := P) (w := w) (base := base) T
  have G_l_are_alike := ok_l_are_alike (P := P) (w := w) (base := base) T
  have G_l_mirror := ok_l_mirror (P := P) (w := w) (base := base) T
  have G_l_turned := ok_l_turned (P := P) (w := w) (base := base) T
  have G_l_turn := ok_l_turn (P := P) (w := w) (base := base) T
  have G_l_unit := ok_l_unit (P := P) (w := w) (base := base) T
  have G_fold := ok_fold (P := P) (w := w) (base := base) T
  have G_has_axis := ok_has_axis (P := P) (w := w) (base := base) T
  have G_carrying_turns := ok_carrying_turns (P := P) (w := w) (base := base) T TB hcd hP
  refine fnGW (k := 50) T.F_l_right sc_l_right (fun _ => rfl) (fun cdv A outer s H E a wa hgu hr hp => ⟨_, (pss_cons (ps_set (i := 1) sc_l_right.nd rfl (.inl rfl) (pe_call G_l_drawn (hr.mono (by omega)) (by rfl) T.m_l_drawn T.F_l_drawn.kp T.b_l_drawn .nil pass0 (pa_cons (pv 0) pa_nil)))
      (pss_cons (ps_asg (pe_tup (pa_cons (pe_call G_l_common (hr.mono (by omega)) (by rfl) T.m_l_common T.F_l_common.kp T.b_l_common .nil pass0 (pa_cons (pv 1) pa_nil)) (pa_cons (pe_call G_l_are_alike (hr.mono (by omega)) (by rfl) T.m_l_are_alike T.F_l_are_alike.kp T.b_l_are_alike .nil pass0 (pa_cons (pe_call G_l_mirror (hr.mono (by omega)) (by rfl) T.m_l_mirror T.F_l_mirror.kp T.b_l_mirror .nil pass0 (pa_cons (pv 1) pa_nil)) (pa_cons (pv 1) pa_nil))) pa_nil))) (pg_tup rfl (pgs_cons (pg_name (i := 2) sc_l_right.nd rfl (.inr rfl)) (pgs_cons (pg_name (i := 3) sc_l_right.nd rfl (.inl rfl)) pgs_nil))))
      (pss_cons (ps_set (i := 4) sc_l_right.nd rfl (.inl rfl) (pe_call G_l_turned (hr.mono (by omega)) (by rfl) T.m_l_turned T.F_l_turned.kp T.b_l_turned .nil pass0 (pa_cons (pv 1) (pa_cons (pe_call G_l_turn (hr.mono (by omega)) (by rfl) T.m_l_turn T.F_l_turn.kp T.b_l_turn .nil pass0 (pa_cons (pv 0) pa_nil)) pa_nil))))
      (pss_cons (ps_if (pt_cmpR op_ne (pe_callB (cr_repr hgu hr) (by rfl) T.z_repr (by decide +kernel) (pa_cons (pe_lst (pa_cons (pe_call G_fold (hr.mono (by omega)) (by rfl) T.m_fold T.F_fold.kp T.b_fold .nil pass0 (pa_cons (pv 1) pa_nil)) (pa_cons (pe_callK0 G_fold (hr.mono (by omega)) (by rfl) T.m_fold T.F_fold.kp T.kb_fold_wave pass0 (pk_cons (pv 4) pk_nil)) (pa_cons (pe_call G_fold (hr.mono (by omega)) (by rfl) T.m_fold T.F_fold.kp T.b_fold .nil pass0 (pa_cons (pe_call G_l_mirror (hr.mono (by omega)) (by rfl) T.m_l_mirror T.F_l_mirror.kp T.b_l_mirror .nil pass0 (pa_cons (pv 1) pa_nil)) pa_nil)) pa_nil)))) pa_nil)) (pe_callB (cr_repr hgu hr) (by rfl) T.z_repr (by decide +kernel) (pa_cons (pe_lst (pa_cons (pv 2) (pa_cons (pv 2) (pa_cons (pv 2) pa_nil)))) pa_nil)) (nomark _))
        (pss_one (ps_ret pe_bl))
        pss_nil)
      (pss_cons (ps_if (pt_cmpR op_ne (pe_callB (cr_repr hgu hr) (by rfl) T.z_repr (by decide +kernel) (pa_cons (pe_lst (pa_cons (pe_call G_has_axis (hr.mono (by omega)) (by rfl) T.m_has_axis T.F_has_axis.kp T.b_has_axis .nil pass0 (pa_cons (pv 1) pa_nil)) (pa_cons (pe_callK0 G_has_axis (hr.mono (by omega)) (by rfl) T.m_has_axis T.F_has_axis.kp T.kb_has_axis_wave pass0 (pk_cons (pv 4) pk_nil)) (pa_cons (pe_call G_has_axis (hr.mono (by omega)) (by rfl) T.m_has_axis T.F_has_axis.kp T.b_has_axis .nil pass0 (pa_cons (pe_call G_l_mirror (hr.mono (by omega)) (by rfl) T.m_l_mirror T.F_l_mirror.kp T.b_l_mirror .nil pass0 (pa_cons (pv 4) pa_nil)) pa_nil)) pa_nil)))) pa_nil)) (pe_callB (cr_repr hgu hr) (by rfl) T.z_repr (by decide +kernel) (pa_cons (pe_lst (pa_cons (pv 3) (pa_cons (pv 3) (pa_cons (pv 3) pa_nil)))) pa_nil)) (nomark _))
        (pss_one (ps_ret pe_bl))
        pss_nil)
      (pss_cons (ps_set (i := 5) sc_l_right.nd rfl (.inl rfl) (pe_callTy call_tuple_of (by rfl) T.z_tuple (by decide +kernel) (pa_cons (pe_lc (own := [("_law_a", 6)]) (g := gName 6) (by rfl) sc_l_right.nd (pi_range1 (by rfl) T.z_range (pa_cons pe_int pa_nil)) (blkOk_by (own := [("_law_a", 6)]) (N := N_l_right) (sc := defScope s_l_right) (by decide +kernel)) (fun _ _ _ _ _ => (pg_name (i := 6) sc_l_right.nd rfl (Or.inl rfl))) (fun _ _ _ _ _ => pts_one (pt_cmpR (op_eqDK (K := K) rfl hr.units) (pe_op op_mod (pe_callTy call_int1 (by rfl) T.z_int (by decide +kernel) (pa_cons (pe_op op_mulX (pv 6) (pv 2)) pa_nil)) pe_int) pe_int (nomark _))) (fun _ _ _ _ _ => (pe_call G_l_unit (hr.mono (by omega)) (by rfl) T.m_l_unit T.F_l_unit.kp T.b_l_unit .nil pass0 (pa_cons (pv 6) (pa_cons pe_int (pa_cons pe_int pa_nil)))))) pa_nil)))
      (pss_one (ps_ret (pe_cmpR op_eq (pe_callB (cr_reprA (K := K) rfl hgu hr.u65) (by rfl) T.z_repr (by decide +kernel) (pa_cons (pe_call G_carrying_turns (hr.mono (by omega)) (by rfl) T.m_carrying_turns T.F_carrying_turns.kp T.b_carrying_turns .nil pass0 (pa_cons (pv 1) (pa_cons (pv 1) pa_nil))) pa_nil)) (pe_callB (cr_reprA (K := K) rfl hgu hr.u65) (by rfl) T.z_repr (by decide +kernel) (pa_cons (pe_ifExp (pt_cmpR op_gt (pv 2) pe_int (nomark _)) (pv 5) pe_non) pa_nil)) (nomark _)))))))))), ?_⟩)
  refine run_sets (ev_callWD () rfl ea_nil trivial) fun d ⟨k, L, e, hL, hs⟩ => ?_
  subst e
  have hs1 : Sz 1000 L := hs.mono (by decide)
  obtain ⟨g0, g8⟩ := gH_eq hL
  have pL : Wv L ∧ Sz 1000 L := ⟨hL, hs1⟩
  have pM : Wv (mir L) ∧ Sz 1000 (mir L) := ⟨mir_wv hL, mir_sz hs1⟩
  generalize hb : alB k k (mir L) L = b
  refine run_asgD (ev_tup (ea_cons (ev_callD (k, L) (ea_cons ev_var ea_nil) hL.1) (ea_cons (ev_is (ev_callD ((k, mir L), (k, L)) (ea_cons (ev_callD (k, L) (ea_cons ev_var ea_nil) hL.1) (ea_cons ev_var ea_nil)) ⟨pM, pL⟩) (congrArg PyData.bool hb)) ea_nil))) (tg_tup (tgs_cons tg_name (tgs_cons tg_name tgs_nil))) ?_
  refine run_sets (S := fun d => ∃ z : Pr, d = wD k (turnC L z) ∧ Ub 21 z) (ev_call (ea2 (S := Is (wD k L)) ev_var (ev_callWD () rfl ea_nil trivial)) ?_) fun d ⟨z, e, hz⟩ => ?_
  · rintro ds ⟨d, e, rfl, h1, ⟨z, rfl, hz⟩⟩
    cases (show d = _ from h1)
    exact ⟨((k, L), z), rfl, ⟨hL.1, hs1, hz⟩, fun d e => ⟨z, e, hz⟩⟩
  subst e
  have nz := hz.nr
  have pT : Wv (turnC L z) ∧ Sz 1000 (turnC L z) := ⟨turnC_wv hL nz, turnC_sz2 hs hL.1 hz⟩
  have pTm : Wv (mir (turnC L z)) ∧ Sz 1000 (mir (turnC L z)) := ⟨mir_wv pT.1, mir_sz pT.2⟩
  have q1 : alB k k (mir (turnC L z)) (turnC L z) = b := by
    rw [← hb]
    exact alB_eq ⟨fun h => ⟨rfl, (al_mirror.mp (al_comm.mp ((al_turn nz).mp (al_comm.mp h.2))) |> fun h => al_comm.mp ((al_turn nz).mp (al_comm.mp h)))⟩, fun h => ⟨rfl, al_comm.mp ((al_turn nz).mpr (al_comm.mp (al_mirror.mpr (al_comm.mp ((al_turn nz).mpr (al_comm.mp h.2))))))⟩⟩
  have q2 : alB k k (mir (mir (turnC L z))) (mir (turnC L z)) = b := by
    rw [← q1, mir_mir]
    exact alB_eq ⟨fun h => ⟨rfl, al_symm h.2⟩, fun h => ⟨rfl, al_symm h.2⟩⟩
  have ri : Rp 0 1921 (.int (gH L : Int)) := rp_int (by rw [Int.natAbs_natCast]; exact Nat.lt_of_le_of_lt g8 (by decide +kernel))
  have r1 := rpa_cons ri (rpa_cons ri (rpa_cons ri rpa_nil))
  refine run_ifN (et_test (ev_neF (ev_neS (ev_reprLD (ds := [.int (gH L : Int), .int (gH L : Int), .int (gH L : Int)]) (el_lstD (ea_cons (ev_callD (k, L) (ea_cons ev_var ea_nil) hL) (ea_cons (ev_callK0 tp_fold_wave (ea_cons ev_var ea_nil) fun ds e => ⟨(k, turnC L z), by rw [e]; rfl, pT.1, fun d e => by rw [show d = _ from e, gH_turn L nz]; rfl⟩) (ea_cons (ev_is (ev_callD (k, mir L) (ea_cons (ev_callD (k, L) (ea_cons ev_var ea_nil) hL.1) ea_nil) pM.1) (congrArg (fun n : Nat => PyData.int (n : Int)) (gH_mir L))) ea_nil)))) (rp_lst r1)) (ev_reprLD (el_lstD (ea_cons ev_var (ea_cons ev_var (ea_cons ev_var ea_nil)))) (rp_lst r1))) rfl)) ?_
  have r2 : RpA 0 21 [.bool b, .bool b, .bool b] := rpa_cons (rp_bl b) (rpa_cons (rp_bl b) (rpa_cons (rp_bl b) rpa_nil))
  refine run_ifN (et_test (ev_neF (ev_neS (ev_reprLD (ds := [.bool b, .bool b, .bool b]) (el_lstD (ea_cons (ev_is (ev_callD (k, L) (ea_cons ev_var ea_nil) pL) (congrArg PyData.bool hb)) (ea_cons (ev_callK0 tp_has_axis_wave (ea_cons ev_var ea_nil) fun ds e => ⟨(k, turnC L z), by rw [e]; rfl, pT, fun d e => by rw [show d = _ from e, q1]; rfl⟩) (ea_cons (ev_is (ev_callD (k, mir (turnC L z)) (ea_cons (ev_callD (k, turnC L z) (ea_cons ev_var ea_nil) pT.1.1) ea_nil) pTm) (congrArg PyData.bool q2)) ea_nil)))) (rp_lst r2)) (ev_reprLD (el_lstD (ea_cons ev_var (ea_cons ev_var (ea_cons ev_var ea_nil)))) (rp_lst r2))) rfl)) ?_
  refine run_setD (d := unS (gH L)) (ev_is (ev_tupOf (EvL.mono (el_compR (n := 4) (fun a => decide ((a * gH L) % 4 = 0)) (fun a => pD (np (0, 1) a)) (ea_cons ev_int ea_nil) (by decide) (by decide) fun a ha => ⟨_, tc_name, et_test (ev_is (ev_eqD (ev_I (j := 4) (ev_int1 (ev_I (i := (a : Int)) (j := (gH L : Int)) ev_var ev_var (mul_bd (n := 8) (by unfold bd; omega) (by unfold bd; omega)))) ev_int (by show (0 : Int) < 4; decide)) ev_int rfl rfl) (congrArg PyData.bool (mod4_dec a (gH L)))), fun _ => ev_callD a (ea_cons ev_var (ea_cons ev_int (ea_cons ev_int ea_nil))) (by omega)⟩) fun ds e => e)) rfl) ?_
  obtain ⟨u1, u2, u3⟩ := unD_ok g8
  refine run_retD (ev_eqT (ev_eqS (ev_reprA (d := unD (gH L)) (ev_callD (k, L) (ea_cons ev_var (ea_cons ev_var ea_nil)) pL) u1 u2 u3) (ev_reprA (d := unD (gH L)) (ev_ifD (b := decide ((0 : Int) < (gH L : Int))) (et_test (ev_B0 ev_var ev_int)) (fun y => ?_) fun y => ?_) u1 u2 u3)) rfl) rfl
  · have g1 : gH L ≠ 0 := by have := of_decide_eq_true y; omega
    rw [← unS_eq g1 g8]
    exact ev_var
  · have g1 : gH L = 0 := by have := of_decide_eq_false y; omega
    rw [g1]
    exact ev_non
end
end My
set_option Elab.async false
set_option linter.all false
set_option maxRecDepth 100000
set_option maxHeartbeats 4000000
namespace My
open PySem PySem.Spec PyProof.Rows L2 Vd Mt
section
variable {P : Program} {w : World} {K : PySem.W.Frag} {mg : Str → Option Value} {base : Heap} {c Ptb : Addr} [Sees P base]
theorem ok_l_tap (T : Tx K mg) : FnOk P w K mg base CX0 1 T.f_l_tap T.fd_l_tap ["_law_script", "_law_lap"] (spWell K) := by
  refine T.F_l_tap.ok sc_l_tap (fun vs H Q E h => ?_) (fun cdv A outer s H vs Q E hr h => ?_)
  · obtain ⟨a, ns, lap, rfl, _⟩ := h
    rfl
  obtain ⟨a, ns, lap, rfl, hS, hl, l0, l1, q⟩ := h
  refine ⟨_, (pss_cons (ps_set (i := 2) sc_l_tap.nd rfl (.inl rfl) (pe_op op_add pe_int (pe_op op_mul pe_int (pv 1))))
      (pss_cons (ps_for PassesOwn.never rfl (pi_list (pe_slice sl_list (pv 0) po_none (po_some pe_int))) (pg_name (i := 3) sc_l_tap.nd rfl (.inl rfl))
        (pss_one (ps_set (i := 2) sc_l_tap.nd rfl (.inl rfl) (pe_op op_mod (pe_callTy call_int1 (by rfl) T.z_int (by decide +kernel) (pa_cons (pe_op op_add (pe_op op_add (pe_op op_mul (pv 2) pe_int) (pe_op op_mod (pe_callTy call_int1 (by rfl) T.z_int (by decide +kernel) (pa_cons (pv 3) pa_nil)) pe_int)) pe_int) pa_nil)) pe_int))))
      (pss_cons (ps_set (i := 4) sc_l_tap.nd rfl (.inl rfl) (pe_ifExp (pt_cmpR op_lt (pv 1) (pe_callB call_len_seq (by rfl) T.z_len PySem.boot_len (pa_cons (pv 0) pa_nil)) (nomark _)) (pe_callB call_abs (by rfl) T.z_abs (by decide +kernel) (pa_cons (pe_callTy call_int1 (by rfl) T.z_int (by decide +kernel) (pa_cons (pe_ix ix_list (pv 0) (pv 1) (fun _ _ => rfl)) pa_nil)) pa_nil)) pe_int))
      (pss_one (ps_ret (pe_lst (pa_cons (pe_ifExp (pt_cmpR op_ge (pv 4) (pe_op op_pow pe_int pe_int) (nomark _)) (pv 4) pe_int) (pa_cons (pv 2) (pa_cons pe_int pa_nil))))))))), ?_⟩
  have same : ∀ {p : Addr} {o : HO} {H1 : Hp}, H1 p = none → Evl.Ex H1 (upd H1 p o) := fun h => Evl.Ex.new h
  refine ⟨.int lap, rfl, _, lap, rfl, rfl, .inl ⟨by decide, by decide⟩, _, _, rfl, rfl, ?_⟩
  obtain ⟨ms, em, el⟩ := cut_map ns none (some 63)
  refine ⟨.ref a, rfl, 63, rfl, a, _, rfl, hS, fun p hp => ?_⟩
  have x2 := (Evl.Ex.refl H).trans (same (o := .lst (cutV (ns.map V.int) none (some 63))) hp)
  refine ⟨p, rfl, ⟨_, .inl (.inl upd_same)⟩, for_list (K := K) (a := p) (xs := ms.map V.int) (fun i σ H' => ∃ (st : Int) (o : Option V), σ = [some (.ref a), some (.int lap), some (.int st), o, none] ∧ Evl.Ex H H' ∧ H' p = some (.lst (ms.map V.int))) ⟨_, none, rfl, x2, by rw [upd_same, em]⟩ (fun i σ H' _ ⟨_, _, _, _, z⟩ => .inl (.inl z)) ?_ ?_⟩
  · rintro i y σ H' hi ⟨st, o, rfl, x4, hc2⟩
    obtain ⟨z, hz, rfl⟩ : ∃ z, ms[i]? = some z ∧ y = V.int z := by
      rw [List.getElem?_map] at hi
      cases e : ms[i]? with
      | none => rw [e] at hi; cases hi
      | some z => rw [e] at hi; exact ⟨z, rfl, (Option.some.inj hi).symm⟩
    exact ⟨.int st, rfl, st, _, rfl, rfl, .inr ⟨by decide, by decide⟩, .int z, rfl, .inl ⟨z, rfl, z, _, rfl, rfl, by show (0 : Int) < _; decide, _, _, rfl, rfl, _, _, rfl, rfl, .inl ⟨_, rfl, _, _, rfl, rfl, by show (0 : Int) < _; decide, _, some (.int z), rfl, x4, hc2⟩⟩⟩
  · rintro σ H' ⟨st, o, rfl, x4, hc2⟩
    dsimp only
    have hS1 := Evl.ex_l x4 hS
    refine asg_int (fun Q2 rest => ?_) (fun own H1 x1 => ?_)
    · refine ⟨.int lap, rfl, .ref a, rfl, a, _, rfl, .inl hS1, lap, _, rfl, rfl, _, rfl, ite2 (fun e => ?_) (fun e => ?_)⟩
      · have hlt : lap.toNat < ns.length := by have := of_decide_eq_true e; rw [List.length_map] at this; omega
        have g : (ns.map V.int)[lap.toNat]? = some (.int ns[lap.toNat]) := by
          rw [List.getElem?_map, List.getElem?_eq_getElem hlt]
          rfl
        exact ⟨.ref a, rfl, .int lap, rfl, a, _, lap, _, rfl, rfl, hS1, at_of (by omega) g, .inl ⟨_, rfl, _, rfl, rest _ H' (Evl.Ex.refl H')⟩⟩
      · exact rest _ H' (Evl.Ex.refl H')
    dsimp only
    refine ret_lst_int (fun Q3 fin => ?_) (fun i => ?_)
    · refine ⟨.int own, rfl, (10 : Int), 18, rfl, rfl, ⟨by decide, by decide, by decide⟩, own, _, rfl, rfl, _, rfl, ?_⟩
      exact ite2 (fun _ => ⟨.int own, rfl, fin _⟩) fun _ => fin _
    exact ⟨.int st, rfl, Evl.sz_of (by exact Nat.le_of_ble_eq_true rfl), fun p2 hp2 => q p2 _ ((x4.trans x1).trans (same hp2)) (Evl.fresh_back (x4.trans x1) hp2) ⟨i, st, 0, upd_same⟩⟩
theorem ok_law (T : Tx K mg) (TB : LamX.TabB base mg c Ptb) (hcd : T.fd_in_order.code = .ref c) (hP : tabOf K = some Ptb) : FnG P w K mg base 52 T.f_law T.fd_law ["_law_script"] (spLaw K) := by
  have G_l_tap := ok_l_tap (P := P) (w := w) (base := base) T
  have G_l_right := ok_l_right (P := P) (w := w) (base := base) T TB hcd hP
  refine Fun.okG (k := 51) T.F_law sc_law (fun vs H Q E h => ?_) (fun cdv A outer s H vs Q E hgu hr h => ?_)
  · obtain ⟨a, ns, rfl, _⟩ := h
    rfl
  obtain ⟨a, ns, rfl, hl, hS, tq, q⟩ := h
  suffices z : ∃ t, PSs (cxOf CX0 P w K mg base N_law "law" (defScope s_law) T.f_law cdv A outer s H E).nox (defBody s_law) t ∧ t { nx := fun _ H' => Q .non H', rt := Q } (L2.start N_law [V.ref a]) H by
    obtain ⟨t, h1, h2⟩ := z
    exact ⟨t, h1.nox, h2⟩
  refine ⟨_, (pss_one (ps_ret (pe_callB (cr_all rfl) (by rfl) T.z_all (by decide +kernel) (pa_cons (pe_lc (own := [("_law_lap", 1)]) (g := gName 1) (by rfl) sc_law.nd (pi_range1 (by rfl) T.z_range (pa_cons (pe_callB (call_max2 rfl) (by rfl) T.z_max (by decide +kernel) (pa_cons pe_int (pa_cons (pe_callB (call_min2 rfl) (by rfl) T.z_min (by decide +kernel) (pa_cons (pe_callB call_len_seq (by rfl) T.z_len PySem.boot_len (pa_cons (pv 0) pa_nil)) (pa_cons pe_int pa_nil))) pa_nil))) pa_nil)) (blkOk_by (own := [("_law_lap", 1)]) (N := N_law) (sc := defScope s_law) (by decide +kernel)) (fun _ _ _ _ _ => (pg_name (i := 1) sc_law.nd rfl (Or.inl rfl))) (fun _ _ _ _ _ => pts_nil) (fun _ _ _ _ _ => (pe_callG G_l_right hgu (hr.mono (by omega)) (by rfl) T.m_l_right T.F_l_right.kp T.b_l_right (pa_cons (pe_call G_l_tap (hr.mono (by omega)) (by rfl) T.m_l_tap T.F_l_tap.kp T.b_l_tap .nil pass0 (pa_cons (pv 0) (pa_cons (pv 1) pa_nil))) pa_nil)))) pa_nil)))), ?_⟩
  refine ret_allA (m := ((max 2 (min ns.length 3) : Nat) : Int)) (fun Q q => ?_) (max 2 (min ns.length 3)) rfl (by omega) (fun _ => rfl) (fun i H1 hi x Q2 q2 => ?_) q
  · refine ⟨.ref a, rfl, a, _, rfl, .inl hS, _, 3, rfl, 2, _, rfl, ?_⟩
    have e : (if (if (3 : Int) < (((ns.map V.int).length : Nat) : Int) then (3 : Int) else (((ns.map V.int).length : Nat) : Int)) > 2 then (if (3 : Int) < (((ns.map V.int).length : Nat) : Int) then (3 : Int) else (((ns.map V.int).length : Nat) : Int)) else 2) = ((max 2 (min ns.length 3) : Nat) : Int) := by
      rw [List.length_map]
      split <;> split <;> omega
    rw [e]
    exact q
  refine ⟨.ref a, rfl, .int (0 + i), rfl, a, ns, 0 + i, rfl, sqL_kp x (fun z => nomatch z) hS, hl, by omega, by omega, fun p H2 x2 np wk => ?_⟩
  refine ⟨(), p, [], rfl, wk, .nil, trivial, (fun P z => (Kp.ex (w := none) x2).tab P (x.tab P (tq P z))), fun v d H3 g ed tv => ?_⟩
  cases (show d = .bool true from ed)
  rw [tv.inv_bl]
  exact q2 _ (Kp.drop (.ex x2) np g.1)
theorem all_mk {l : PySem.W.OpenLaw} {w : World} {K : PySem.W.Frag} {h : Heap} {mg : Str → Option Value} {fa : Addr} (X : K.In h) (G : h.Ns mainGlobals mg) (hfa : mg "law" = some (.ref fa))
    {od_is_whole an_is_whole : Option Addr} {sl_is_whole : Array (Option Value)} {oc_is_whole kV_is_whole dc_is_whole pm_is_whole cd_is_whole ct_is_whole : Value} {f_is_whole : Addr}
    {od_is_fraction an_is_fraction : Option Addr} {sl_is_fraction : Array (Option Value)} {oc_is_fraction kV_is_fraction dc_is_fraction pm_is_fraction cd_is_fraction ct_is_fraction : Value} {f_is_fraction : Addr}
    {od_is_fraction_pair an_is_fraction_pair : Option Addr} {sl_is_fraction_pair : Array (Option Value)} {oc_is_fraction_pair kV_is_fraction_pair dc_is_fraction_pair pm_is_fraction_pair cd_is_fraction_pair ct_is_fraction_pair : Value} {f_is_fraction_pair : Addr}
    {od_check_fraction an_check_fraction : Option Addr} {sl_check_fraction : Array (Option Value)} {oc_check_fraction kV_check_fraction dc_check_fraction pm_check_fraction cd_check_fraction ct_check_fraction : Value} {f_check_fraction : Addr}
    {od_ratio an_ratio : Option Addr} {sl_ratio : Array (Option Value)} {oc_ratio kV_ratio dc_ratio pm_ratio cd_ratio ct_ratio : Value} {f_ratio : Addr}
    {od_ratio_sum an_ratio_sum : Option Addr} {sl_ratio_sum : Array (Option Value)} {oc_ratio_sum kV_ratio_sum dc_ratio_sum pm_ratio_sum cd_ratio_sum ct_ratio_sum : Value} {f_ratio_sum : Addr}
    {od_ratio_product an_ratio_product : Option Addr} {sl_ratio_product : Array (Option Value)} {oc_ratio_product kV_ratio_product dc_ratio_product pm_ratio_product cd_ratio_product ct_ratio_product : Value} {f_ratio_product : Addr}
    {od_ratio_negative an_ratio_negative : Option Addr} {sl_ratio_negative : Array (Option Value)} {oc_ratio_negative kV_ratio_negative dc_ratio_negative pm_ratio_negative cd_ratio_negative ct_ratio_negative : Value} {f_ratio_negative : Addr}
    {od_trimmed an_trimmed : Option Addr} {sl_trimmed : Array (Option Value)} {oc_trimmed kV_trimmed dc_trimmed pm_trimmed cd_trimmed ct_trimmed : Value} {f_trimmed : Addr}
    {od_scaled_worth an_scaled_worth : Option Addr} {sl_scaled_worth : Array (Option Value)} {oc_scaled_worth kV_scaled_worth dc_scaled_worth pm_scaled_worth cd_scaled_worth ct_scaled_worth : Value} {f_scaled_worth : Addr}
    {od_slope_of an_slope_of : Option Addr} {sl_slope_of : Array (Option Value)} {oc_slope_of kV_slope_of dc_slope_of pm_slope_of cd_slope_of ct_slope_of : Value} {f_slope_of : Addr}
    {od_primitive an_primitive : Option Addr} {sl_primitive : Array (Option Value)} {oc_primitive kV_primitive dc_primitive pm_primitive cd_primitive ct_primitive : Value} {f_primitive : Addr}
    {od_quotient an_quotient : Option Addr} {sl_quotient : Array (Option Value)} {oc_quotient kV_quotient dc_quotient pm_quotient cd_quotient ct_quotient : Value} {f_quotient : Addr}
    {od_digits_of an_digits_of : Option Addr} {sl_digits_of : Array (Option Value)} {oc_digits_of kV_digits_of dc_digits_of pm_digits_of cd_digits_of ct_digits_of : Value} {f_digits_of : Addr}
    {od_shared_factor an_shared_factor : Option Addr} {sl_shared_factor : Array (Option Value)} {oc_shared_factor kV_shared_factor dc_shared_factor pm_shared_factor cd_shared_factor ct_shared_factor : Value} {f_shared_factor : Addr}
    {od_rest_by_prime an_rest_by_prime : Option Addr} {sl_rest_by_prime : Array (Option Value)} {oc_rest_by_prime kV_rest_by_prime dc_rest_by_prime pm_rest_by_prime cd_rest_by_prime ct_rest_by_prime : Value} {f_rest_by_prime : Addr}
    {od_is_surely_single an_is_surely_single : Option Addr} {sl_is_surely_single : Array (Option Value)} {oc_is_surely_single kV_is_surely_single dc_is_surely_single pm_is_surely_single cd_is_surely_single ct_is_surely_single : Value} {f_is_surely_single : Addr}
    {od_single_factors an_single_factors : Option Addr} {sl_single_factors : Array (Option Value)} {oc_single_factors kV_single_factors dc_single_factors pm_single_factors cd_single_factors ct_single_factors : Value} {f_single_factors : Addr}
    {od_fraction_root an_fraction_root : Option Addr} {sl_fraction_root : Array (Option Value)} {oc_fraction_root kV_fraction_root dc_fraction_root pm_fraction_root cd_fraction_root ct_fraction_root : Value} {f_fraction_root : Addr}
    {od_remainder_at an_remainder_at : Option Addr} {sl_remainder_at : Array (Option Value)} {oc_remainder_at kV_remainder_at dc_remainder_at pm_remainder_at cd_remainder_at ct_remainder_at : Value} {f_remainder_at : Addr}
    {od_roots_by an_roots_by : Option Addr} {sl_roots_by : Array (Option Value)} {oc_roots_by kV_roots_by dc_roots_by pm_roots_by cd_roots_by ct_roots_by : Value} {f_roots_by : Addr}
    {od_has_clear_roots an_has_clear_roots : Option Addr} {sl_has_clear_roots : Array (Option Value)} {oc_has_clear_roots kV_has_clear_roots dc_has_clear_roots pm_has_clear_roots cd_has_clear_roots ct_has_clear_roots : Value} {f_has_clear_roots : Addr}
    {od_lifted an_lifted : Option Addr} {sl_lifted : Array (Option Value)} {oc_lifted kV_lifted dc_lifted pm_lifted cd_lifted ct_lifted : Value} {f_lifted : Addr}
    {od_is_turn an_is_turn : Option Addr} {sl_is_turn : Array (Option Value)} {oc_is_turn kV_is_turn dc_is_turn pm_is_turn cd_is_turn ct_is_turn : Value} {f_is_turn : Addr}
    {od_check_turn an_check_turn : Option Addr} {sl_check_turn : Array (Option Value)} {oc_check_turn kV_check_turn dc_check_turn pm_check_turn cd_check_turn ct_check_turn : Value} {f_check_turn : Addr}
    {od_check_turns an_check_turns : Option Addr} {sl_check_turns : Array (Option Value)} {oc_check_turns kV_check_turns dc_check_turns pm_check_turns cd_check_turns ct_check_turns : Value} {f_check_turns : Addr}
    {od_turn_of an_turn_of : Option Addr} {sl_turn_of : Array (Option Value)} {oc_turn_of kV_turn_of dc_turn_of pm_turn_of cd_turn_of ct_turn_of : Value} {f_turn_of : Addr}
    {od_join_turns an_join_turns : Option Addr} {sl_join_turns : Array (Option Value)} {oc_join_turns kV_join_turns dc_join_turns pm_join_turns cd_join_turns ct_join_turns : Value} {f_join_turns : Addr}
    {od_back an_back : Option Addr} {sl_back : Array (Option Value)} {oc_back kV_back dc_back pm_back cd_back ct_back : Value} {f_back : Addr}
    {od_join_powers an_join_powers : Option Addr} {sl_join_powers : Array (Option Value)} {oc_join_powers kV_join_powers dc_join_powers pm_join_powers cd_join_powers ct_join_powers : Value} {f_join_powers : Addr}
    {od_turn_times an_turn_times : Option Addr} {sl_turn_times : Array (Option Value)} {oc_turn_times kV_turn_times dc_turn_times pm_turn_times cd_turn_times ct_turn_times : Value} {f_turn_times : Addr}
    {od_in_order an_in_order : Option Addr} {sl_in_order : Array (Option Value)} {oc_in_order kV_in_order dc_in_order pm_in_order cd_in_order ct_in_order : Value} {f_in_order : Addr}
    {od_order_key an_order_key : Option Addr} {sl_order_key : Array (Option Value)} {oc_order_key kV_order_key dc_order_key pm_order_key cd_order_key ct_order_key : Value} {f_order_key : Addr}
    {od_is_wave an_is_wave : Option Addr} {sl_is_wave : Array (Option Value)} {oc_is_wave kV_is_wave dc_is_wave pm_is_wave cd_is_wave ct_is_wave : Value} {f_is_wave : Addr}
    {od_check_wave an_check_wave : Option Addr} {sl_check_wave : Array (Option Value)} {oc_check_wave kV_check_wave dc_check_wave pm_check_wave cd_check_wave ct_check_wave : Value} {f_check_wave : Addr}
    {od_made_wave an_made_wave : Option Addr} {sl_made_wave : Array (Option Value)} {oc_made_wave kV_made_wave dc_made_wave pm_made_wave cd_made_wave ct_made_wave : Value} {f_made_wave : Addr}
    {od_pair_at an_pair_at : Option Addr} {sl_pair_at : Array (Option Value)} {oc_pair_at kV_pair_at dc_pair_at pm_pair_at cd_pair_at ct_pair_at : Value} {f_pair_at : Addr}
    {od_pair_product an_pair_product : Option Addr} {sl_pair_product : Array (Option Value)} {oc_pair_product kV_pair_product dc_pair_product pm_pair_product cd_pair_product ct_pair_product : Value} {f_pair_product : Addr}
    {od_mirrored an_mirrored : Option Addr} {sl_mirrored : Array (Option Value)} {oc_mirrored kV_mirrored dc_mirrored pm_mirrored cd_mirrored ct_mirrored : Value} {f_mirrored : Addr}
    {od_harmonics_of an_harmonics_of : Option Addr} {sl_harmonics_of : Array (Option Value)} {oc_harmonics_of kV_harmonics_of dc_harmonics_of pm_harmonics_of cd_harmonics_of ct_harmonics_of : Value} {f_harmonics_of : Addr}
    {od_common_size an_common_size : Option Addr} {sl_common_size : Array (Option Value)} {oc_common_size kV_common_size dc_common_size pm_common_size cd_common_size ct_common_size : Value} {f_common_size : Addr}
    {od_whole_wave an_whole_wave : Option Addr} {sl_whole_wave : Array (Option Value)} {oc_whole_wave kV_whole_wave dc_whole_wave pm_whole_wave cd_whole_wave ct_whole_wave : Value} {f_whole_wave : Addr}
    {od_half_row an_half_row : Option Addr} {sl_half_row : Array (Option Value)} {oc_half_row kV_half_row dc_half_row pm_half_row cd_half_row ct_half_row : Value} {f_half_row : Addr}
    {od_quarter_rows an_quarter_rows : Option Addr} {sl_quarter_rows : Array (Option Value)} {oc_quarter_rows kV_quarter_rows dc_quarter_rows pm_quarter_rows cd_quarter_rows ct_quarter_rows : Value} {f_quarter_rows : Addr}
    {od_zero_turn an_zero_turn : Option Addr} {sl_zero_turn : Array (Option Value)} {oc_zero_turn kV_zero_turn dc_zero_turn pm_zero_turn cd_zero_turn ct_zero_turn : Value} {f_zero_turn : Addr}
    {od_are_alike an_are_alike : Option Addr} {sl_are_alike : Array (Option Value)} {oc_are_alike kV_are_alike dc_are_alike pm_are_alike cd_are_alike ct_are_alike : Value} {f_are_alike : Addr}
    {od_are_mirror_alike an_are_mirror_alike : Option Addr} {sl_are_mirror_alike : Array (Option Value)} {oc_are_mirror_alike kV_are_mirror_alike dc_are_mirror_alike pm_are_mirror_alike cd_are_mirror_alike ct_are_mirror_alike : Value} {f_are_mirror_alike : Addr}
    {od_has_axis an_has_axis : Option Addr} {sl_has_axis : Array (Option Value)} {oc_has_axis kV_has_axis dc_has_axis pm_has_axis cd_has_axis ct_has_axis : Value} {f_has_axis : Addr}
    {od_fold an_fold : Option Addr} {sl_fold : Array (Option Value)} {oc_fold kV_fold dc_fold pm_fold cd_fold ct_fold : Value} {f_fold : Addr}
    {od_parting an_parting : Option Addr} {sl_parting : Array (Option Value)} {oc_parting kV_parting dc_parting pm_parting cd_parting ct_parting : Value} {f_parting : Addr}
    {od_length_square an_length_square : Option Addr} {sl_length_square : Array (Option Value)} {oc_length_square kV_length_square dc_length_square pm_length_square cd_length_square ct_length_square : Value} {f_length_square : Addr}
    {od_steps_between an_steps_between : Option Addr} {sl_steps_between : Array (Option Value)} {oc_steps_between kV_steps_between dc_steps_between pm_steps_between cd_steps_between ct_steps_between : Value} {f_steps_between : Addr}
    {od_step_between an_step_between : Option Addr} {sl_step_between : Array (Option Value)} {oc_step_between kV_step_between dc_step_between pm_step_between cd_step_between ct_step_between : Value} {f_step_between : Addr}
    {od_have_one_turn an_have_one_turn : Option Addr} {sl_have_one_turn : Array (Option Value)} {oc_have_one_turn kV_have_one_turn dc_have_one_turn pm_have_one_turn cd_have_one_turn ct_have_one_turn : Value} {f_have_one_turn : Addr}
    {od_carrying_turns an_carrying_turns : Option Addr} {sl_carrying_turns : Array (Option Value)} {oc_carrying_turns kV_carrying_turns dc_carrying_turns pm_carrying_turns cd_carrying_turns ct_carrying_turns : Value} {f_carrying_turns : Addr}
    {od_shared_step an_shared_step : Option Addr} {sl_shared_step : Array (Option Value)} {oc_shared_step kV_shared_step dc_shared_step pm_shared_step cd_shared_step ct_shared_step : Value} {f_shared_step : Addr}
    {od_turns_with_power an_turns_with_power : Option Addr} {sl_turns_with_power : Array (Option Value)} {oc_turns_with_power kV_turns_with_power dc_turns_with_power pm_turns_with_power cd_turns_with_power ct_turns_with_power : Value} {f_turns_with_power : Addr}
    {od_l_tap an_l_tap : Option Addr} {sl_l_tap : Array (Option Value)} {oc_l_tap kV_l_tap dc_l_tap pm_l_tap cd_l_tap ct_l_tap : Value} {f_l_tap : Addr}
    {od_l_dip an_l_dip : Option Addr} {sl_l_dip : Array (Option Value)} {oc_l_dip kV_l_dip dc_l_dip pm_l_dip cd_l_dip ct_l_dip : Value} {f_l_dip : Addr}
    {od_l_of an_l_of : Option Addr} {sl_l_of : Array (Option Value)} {oc_l_of kV_l_of dc_l_of pm_l_of cd_l_of ct_l_of : Value} {f_l_of : Addr}
    {od_l_gcd an_l_gcd : Option Addr} {sl_l_gcd : Array (Option Value)} {oc_l_gcd kV_l_gcd dc_l_gcd pm_l_gcd cd_l_gcd ct_l_gcd : Value} {f_l_gcd : Addr}
    {od_l_ratio an_l_ratio : Option Addr} {sl_l_ratio : Array (Option Value)} {oc_l_ratio kV_l_ratio dc_l_ratio pm_l_ratio cd_l_ratio ct_l_ratio : Value} {f_l_ratio : Addr}
    {od_l_div an_l_div : Option Addr} {sl_l_div : Array (Option Value)} {oc_l_div kV_l_div dc_l_div pm_l_div cd_l_div ct_l_div : Value} {f_l_div : Addr}
    {od_l_opp an_l_opp : Option Addr} {sl_l_opp : Array (Option Value)} {oc_l_opp kV_l_opp dc_l_opp pm_l_opp cd_l_opp ct_l_opp : Value} {f_l_opp : Addr}
    {od_l_dot an_l_dot : Option Addr} {sl_l_dot : Array (Option Value)} {oc_l_dot kV_l_dot dc_l_dot pm_l_dot cd_l_dot ct_l_dot : Value} {f_l_dot : Addr}
    {od_l_cross an_l_cross : Option Addr} {sl_l_cross : Array (Option Value)} {oc_l_cross kV_l_cross dc_l_cross pm_l_cross cd_l_cross ct_l_cross : Value} {f_l_cross : Addr}
    {od_l_back an_l_back : Option Addr} {sl_l_back : Array (Option Value)} {oc_l_back kV_l_back dc_l_back pm_l_back cd_l_back ct_l_back : Value} {f_l_back : Addr}
    {od_l_climb an_l_climb : Option Addr} {sl_l_climb : Array (Option Value)} {oc_l_climb kV_l_climb dc_l_climb pm_l_climb cd_l_climb ct_l_climb : Value} {f_l_climb : Addr}
    {od_l_angle an_l_angle : Option Addr} {sl_l_angle : Array (Option Value)} {oc_l_angle kV_l_angle dc_l_angle pm_l_angle cd_l_angle ct_l_angle : Value} {f_l_angle : Addr}
    {od_l_turn an_l_turn : Option Addr} {sl_l_turn : Array (Option Value)} {oc_l_turn kV_l_turn dc_l_turn pm_l_turn cd_l_turn ct_l_turn : Value} {f_l_turn : Addr}
    {od_l_bit an_l_bit : Option Addr} {sl_l_bit : Array (Option Value)} {oc_l_bit kV_l_bit dc_l_bit pm_l_bit cd_l_bit ct_l_bit : Value} {f_l_bit : Addr}
    {od_l_trim an_l_trim : Option Addr} {sl_l_trim : Array (Option Value)} {oc_l_trim kV_l_trim dc_l_trim pm_l_trim cd_l_trim ct_l_trim : Value} {f_l_trim : Addr}
    {od_l_turned an_l_turned : Option Addr} {sl_l_turned : Array (Option Value)} {oc_l_turned kV_l_turned dc_l_turned pm_l_turned cd_l_turned ct_l_turned : Value} {f_l_turned : Addr}
    {od_l_mirror an_l_mirror : Option Addr} {sl_l_mirror : Array (Option Value)} {oc_l_mirror kV_l_mirror dc_l_mirror pm_l_mirror cd_l_mirror ct_l_mirror : Value} {f_l_mirror : Addr}
    {od_l_plain an_l_plain : Option Addr} {sl_l_plain : Array (Option Value)} {oc_l_plain kV_l_plain dc_l_plain pm_l_plain cd_l_plain ct_l_plain : Value} {f_l_plain : Addr}
    {od_l_numbers an_l_numbers : Option Addr} {sl_l_numbers : Array (Option Value)} {oc_l_numbers kV_l_numbers dc_l_numbers pm_l_numbers cd_l_numbers ct_l_numbers : Value} {f_l_numbers : Addr}
    {od_l_shared an_l_shared : Option Addr} {sl_l_shared : Array (Option Value)} {oc_l_shared kV_l_shared dc_l_shared pm_l_shared cd_l_shared ct_l_shared : Value} {f_l_shared : Addr}
    {od_l_joint an_l_joint : Option Addr} {sl_l_joint : Array (Option Value)} {oc_l_joint kV_l_joint dc_l_joint pm_l_joint cd_l_joint ct_l_joint : Value} {f_l_joint : Addr}
    {od_l_settled an_l_settled : Option Addr} {sl_l_settled : Array (Option Value)} {oc_l_settled kV_l_settled dc_l_settled pm_l_settled cd_l_settled ct_l_settled : Value} {f_l_settled : Addr}
    {od_l_are_alike an_l_are_alike : Option Addr} {sl_l_are_alike : Array (Option Value)} {oc_l_are_alike kV_l_are_alike dc_l_are_alike pm_l_are_alike cd_l_are_alike ct_l_are_alike : Value} {f_l_are_alike : Addr}
    {od_l_spun an_l_spun : Option Addr} {sl_l_spun : Array (Option Value)} {oc_l_spun kV_l_spun dc_l_spun pm_l_spun cd_l_spun ct_l_spun : Value} {f_l_spun : Addr}
    {od_l_stepped an_l_stepped : Option Addr} {sl_l_stepped : Array (Option Value)} {oc_l_stepped kV_l_stepped dc_l_stepped pm_l_stepped cd_l_stepped ct_l_stepped : Value} {f_l_stepped : Addr}
    {od_l_common an_l_common : Option Addr} {sl_l_common : Array (Option Value)} {oc_l_common kV_l_common dc_l_common pm_l_common cd_l_common ct_l_common : Value} {f_l_common : Addr}
    {od_l_unit an_l_unit : Option Addr} {sl_l_unit : Array (Option Value)} {oc_l_unit kV_l_unit dc_l_unit pm_l_unit cd_l_unit ct_l_unit : Value} {f_l_unit : Addr}
    {od_l_drawn an_l_drawn : Option Addr} {sl_l_drawn : Array (Option Value)} {oc_l_drawn kV_l_drawn dc_l_drawn pm_l_drawn cd_l_drawn ct_l_drawn : Value} {f_l_drawn : Addr}
    {od_l_right an_l_right : Option Addr} {sl_l_right : Array (Option Value)} {oc_l_right kV_l_right dc_l_right pm_l_right cd_l_right ct_l_right : Value} {f_l_right : Addr}
    {od_law an_law : Option Addr} {sl_law : Array (Option Value)} {oc_law kV_law dc_law pm_law cd_law ct_law : Value} {f_law : Addr}
    {c_CamError : Addr}
    {c_InvalidFraction : Addr}
    {nm_InvalidFraction q_InvalidFraction : Str} {N_InvalidFraction i_InvalidFraction : Addr} {bs_InvalidFraction : List Value} {sn_InvalidFraction : List Str} {sub_InvalidFraction : List Value} {ab_InvalidFraction : Bool} {col_InvalidFraction : Option Bool} {dd_InvalidFraction : Option Addr} {m0_InvalidFraction m1_InvalidFraction m2_InvalidFraction m3_InvalidFraction m5_InvalidFraction : Option Value} {odi_InvalidFraction ani_InvalidFraction : Option Addr} {sli_InvalidFraction : Array (Option Value)} {oci_InvalidFraction dci_InvalidFraction pmi_InvalidFraction cdi_InvalidFraction cti_InvalidFraction : Value}
    {c_InvalidTurn : Addr}
    {nm_InvalidTurn q_InvalidTurn : Str} {N_InvalidTurn i_InvalidTurn : Addr} {bs_InvalidTurn : List Value} {sn_InvalidTurn : List Str} {sub_InvalidTurn : List Value} {ab_InvalidTurn : Bool} {col_InvalidTurn : Option Bool} {dd_InvalidTurn : Option Addr} {m0_InvalidTurn m1_InvalidTurn m2_InvalidTurn m3_InvalidTurn m5_InvalidTurn : Option Value} {odi_InvalidTurn ani_InvalidTurn : Option Addr} {sli_InvalidTurn : Array (Option Value)} {oci_InvalidTurn dci_InvalidTurn pmi_InvalidTurn cdi_InvalidTurn cti_InvalidTurn : Value}
    {c_InvalidWave : Addr}
    {nm_InvalidWave q_InvalidWave : Str} {N_InvalidWave i_InvalidWave : Addr} {bs_InvalidWave : List Value} {sn_InvalidWave : List Str} {sub_InvalidWave : List Value} {ab_InvalidWave : Bool} {col_InvalidWave : Option Bool} {dd_InvalidWave : Option Addr} {m0_InvalidWave m1_InvalidWave m2_InvalidWave m3_InvalidWave m5_InvalidWave : Option Value} {odi_InvalidWave ani_InvalidWave : Option Addr} {sli_InvalidWave : Array (Option Value)} {oci_InvalidWave dci_InvalidWave pmi_InvalidWave cdi_InvalidWave cti_InvalidWave : Value}
    {c_InvalidTurns : Addr}
    {nm_InvalidTurns q_InvalidTurns : Str} {N_InvalidTurns i_InvalidTurns : Addr} {bs_InvalidTurns : List Value} {sn_InvalidTurns : List Str} {sub_InvalidTurns : List Value} {ab_InvalidTurns : Bool} {col_InvalidTurns : Option Bool} {dd_InvalidTurns : Option Addr} {m0_InvalidTurns m1_InvalidTurns m2_InvalidTurns m3_InvalidTurns m5_InvalidTurns : Option Value} {odi_InvalidTurns ani_InvalidTurns : Option Addr} {sli_InvalidTurns : Array (Option Value)} {oci_InvalidTurns dci_InvalidTurns pmi_InvalidTurns cdi_InvalidTurns cti_InvalidTurns : Value}
    {a_NOUGHT : Addr}
    {a_ONE : Addr}
    {t_PRIME : Tok}
    {t_FIRST_MODULUS : Tok}
    {a_EAST : Addr}
    {a_WEST : Addr}
    {t_MOST_HARMONICS : Tok}
    {a_BLANK : Addr}
    {t_MIDDLE : Tok}
    {t_HARMONIC : Tok}
    {t_TURN : Tok}
    {a_QUARTER_TURNS : Addr}
    (a_is_whole : PySem.W.nsIn K mainGlobals "is_whole" = some (some (.ref f_is_whole))) (l_is_whole : K.lookup f_is_whole = some ⟨oc_is_whole, od_is_whole, .func (PySem.W.fnOf "is_whole" "is_whole" (defArgs s_is_whole) (defBody s_is_whole) (defScope s_is_whole) .none kV_is_whole dc_is_whole pm_is_whole an_is_whole cd_is_whole ct_is_whole), sl_is_whole⟩) (c_is_whole : PySem.W.codeIn K cd_is_whole "is_whole" = true) (k_is_whole : PySem.W.keepIn K (.ref f_is_whole) = true) (a_is_fraction : PySem.W.nsIn K mainGlobals "is_fraction" = some (some (.ref f_is_fraction))) (l_is_fraction : K.lookup f_is_fraction = some ⟨oc_is_fraction, od_is_fraction, .func (PySem.W.fnOf "is_fraction" "is_fraction" (defArgs s_is_fraction) (defBody s_is_fraction) (defScope s_is_fraction) .none kV_is_fraction dc_is_fraction pm_is_fraction an_is_fraction cd_is_fraction ct_is_fraction), sl_is_fraction⟩) (c_is_fraction : PySem.W.codeIn K cd_is_fraction "is_fraction" = true) (k_is_fraction : PySem.W.keepIn K (.ref f_is_fraction) = true) (a_is_fraction_pair : PySem.W.nsIn K mainGlobals "is_fraction_pair" = some (some (.ref f_is_fraction_pair))) (l_is_fraction_pair : K.lookup f_is_fraction_pair = some ⟨oc_is_fraction_pair, od_is_fraction_pair, .func (PySem.W.fnOf "is_fraction_pair" "is_fraction_pair" (defArgs s_is_fraction_pair) (defBody s_is_fraction_pair) (defScope s_is_fraction_pair) .none kV_is_fraction_pair dc_is_fraction_pair pm_is_fraction_pair an_is_fraction_pair cd_is_fraction_pair ct_is_fraction_pair), sl_is_fraction_pair⟩) (c_is_fraction_pair : PySem.W.codeIn K cd_is_fraction_pair "is_fraction_pair" = true) (k_is_fraction_pair : PySem.W.keepIn K (.ref f_is_fraction_pair) = true) (a_check_fraction : PySem.W.nsIn K mainGlobals "check_fraction" = some (some (.ref f_check_fraction))) (l_check_fraction : K.lookup f_check_fraction = some ⟨oc_check_fraction, od_check_fraction, .func (PySem.W.fnOf "check_fraction" "check_fraction" (defArgs s_check_fraction) (defBody s_check_fraction) (defScope s_check_fraction) .none kV_check_fraction dc_check_fraction pm_check_fraction an_check_fraction cd_check_fraction ct_check_fraction), sl_check_fraction⟩) (c_check_fraction : PySem.W.codeIn K cd_check_fraction "check_fraction" = true) (k_check_fraction : PySem.W.keepIn K (.ref f_check_fraction) = true) (a_ratio : PySem.W.nsIn K mainGlobals "ratio" = some (some (.ref f_ratio))) (l_ratio : K.lookup f_ratio = some ⟨oc_ratio, od_ratio, .func (PySem.W.fnOf "ratio" "ratio" (defArgs s_ratio) (defBody s_ratio) (defScope s_ratio) .none kV_ratio dc_ratio pm_ratio an_ratio cd_ratio ct_ratio), sl_ratio⟩) (c_ratio : PySem.W.codeIn K cd_ratio "ratio" = true) (k_ratio : PySem.W.keepIn K (.ref f_ratio) = true) (a_ratio_sum : PySem.W.nsIn K mainGlobals "ratio_sum" = some (some (.ref f_ratio_sum))) (l_ratio_sum : K.lookup f_ratio_sum = some ⟨oc_ratio_sum, od_ratio_sum, .func (PySem.W.fnOf "ratio_sum" "ratio_sum" (defArgs s_ratio_sum) (defBody s_ratio_sum) (defScope s_ratio_sum) .none kV_ratio_sum dc_ratio_sum pm_ratio_sum an_ratio_sum cd_ratio_sum ct_ratio_sum), sl_ratio_sum⟩) (c_ratio_sum : PySem.W.codeIn K cd_ratio_sum "ratio_sum" = true) (k_ratio_sum : PySem.W.keepIn K (.ref f_ratio_sum) = true) (a_ratio_product : PySem.W.nsIn K mainGlobals "ratio_product" = some (some (.ref f_ratio_product))) (l_ratio_product : K.lookup f_ratio_product = some ⟨oc_ratio_product, od_ratio_product, .func (PySem.W.fnOf "ratio_product" "ratio_product" (defArgs s_ratio_product) (defBody s_ratio_product) (defScope s_ratio_product) .none kV_ratio_product dc_ratio_product pm_ratio_product an_ratio_product cd_ratio_product ct_ratio_product), sl_ratio_product⟩) (c_ratio_product : PySem.W.codeIn K cd_ratio_product "ratio_product" = true) (k_ratio_product : PySem.W.keepIn K (.ref f_ratio_product) = true) (a_ratio_negative : PySem.W.nsIn K mainGlobals "ratio_negative" = some (some (.ref f_ratio_negative))) (l_ratio_negative : K.lookup f_ratio_negative = some ⟨oc_ratio_negative, od_ratio_negative, .func (PySem.W.fnOf "ratio_negative" "ratio_negative" (defArgs s_ratio_negative) (defBody s_ratio_negative) (defScope s_ratio_negative) .none kV_ratio_negative dc_ratio_negative pm_ratio_negative an_ratio_negative cd_ratio_negative ct_ratio_negative), sl_ratio_negative⟩) (c_ratio_negative : PySem.W.codeIn K cd_ratio_negative "ratio_negative" = true) (k_ratio_negative : PySem.W.keepIn K (.ref f_ratio_negative) = true) (a_trimmed : PySem.W.nsIn K mainGlobals "trimmed" = some (some (.ref f_trimmed))) (l_trimmed : K.lookup f_trimmed = some ⟨oc_trimmed, od_trimmed, .func (PySem.W.fnOf "trimmed" "trimmed" (defArgs s_trimmed) (defBody s_trimmed) (defScope s_trimmed) .none kV_trimmed dc_trimmed pm_trimmed an_trimmed cd_trimmed ct_trimmed), sl_trimmed⟩) (c_trimmed : PySem.W.codeIn K cd_trimmed "trimmed" = true) (k_trimmed : PySem.W.keepIn K (.ref f_trimmed) = true) (a_scaled_worth : PySem.W.nsIn K mainGlobals "scaled_worth" = some (some (.ref f_scaled_worth))) (l_scaled_worth : K.lookup f_scaled_worth = some ⟨oc_scaled_worth, od_scaled_worth, .func (PySem.W.fnOf "scaled_worth" "scaled_worth" (defArgs s_scaled_worth) (defBody s_scaled_worth) (defScope s_scaled_worth) .none kV_scaled_worth dc_scaled_worth pm_scaled_worth an_scaled_worth cd_scaled_worth ct_scaled_worth), sl_scaled_worth⟩) (c_scaled_worth : PySem.W.codeIn K cd_scaled_worth "scaled_worth" = true) (k_scaled_worth : PySem.W.keepIn K (.ref f_scaled_worth) = true) (a_slope_of : PySem.W.nsIn K mainGlobals "slope_of" = some (some (.ref f_slope_of))) (l_slope_of : K.lookup f_slope_of = some ⟨oc_slope_of, od_slope_of, .func (PySem.W.fnOf "slope_of" "slope_of" (defArgs s_slope_of) (defBody s_slope_of) (defScope s_slope_of) .none kV_slope_of dc_slope_of pm_slope_of an_slope_of cd_slope_of ct_slope_of), sl_slope_of⟩) (c_slope_of : PySem.W.codeIn K cd_slope_of "slope_of" = true) (k_slope_of : PySem.W.keepIn K (.ref f_slope_of) = true) (a_primitive : PySem.W.nsIn K mainGlobals "primitive" = some (some (.ref f_primitive))) (l_primitive : K.lookup f_primitive = some ⟨oc_primitive, od_primitive, .func (PySem.W.fnOf "primitive" "primitive" (defArgs s_primitive) (defBody s_primitive) (defScope s_primitive) .none kV_primitive dc_primitive pm_primitive an_primitive cd_primitive ct_primitive), sl_primitive⟩) (c_primitive : PySem.W.codeIn K cd_primitive "primitive" = true) (k_primitive : PySem.W.keepIn K (.ref f_primitive) = true) (a_quotient : PySem.W.nsIn K mainGlobals "quotient" = some (some (.ref f_quotient))) (l_quotient : K.lookup f_quotient = some ⟨oc_quotient, od_quotient, .func (PySem.W.fnOf "quotient" "quotient" (defArgs s_quotient) (defBody s_quotient) (defScope s_quotient) .none kV_quotient dc_quotient pm_quotient an_quotient cd_quotient ct_quotient), sl_quotient⟩) (c_quotient : PySem.W.codeIn K cd_quotient "quotient" = true) (k_quotient : PySem.W.keepIn K (.ref f_quotient) = true) (a_digits_of : PySem.W.nsIn K mainGlobals "digits_of" = some (some (.ref f_digits_of))) (l_digits_of : K.lookup f_digits_of = some ⟨oc_digits_of, od_digits_of, .func (PySem.W.fnOf "digits_of" "digits_of" (defArgs s_digits_of) (defBody s_digits_of) (defScope s_digits_of) .none kV_digits_of dc_digits_of pm_digits_of an_digits_of cd_digits_of ct_digits_of), sl_digits_of⟩) (c_digits_of : PySem.W.codeIn K cd_digits_of "digits_of" = true) (k_digits_of : PySem.W.keepIn K (.ref f_digits_of) = true) (a_shared_factor : PySem.W.nsIn K mainGlobals "shared_factor" = some (some (.ref f_shared_factor))) (l_shared_factor : K.lookup f_shared_factor = some ⟨oc_shared_factor, od_shared_factor, .func (PySem.W.fnOf "shared_factor" "shared_factor" (defArgs s_shared_factor) (defBody s_shared_factor) (defScope s_shared_factor) .none kV_shared_factor dc_shared_factor pm_shared_factor an_shared_factor cd_shared_factor ct_shared_factor), sl_shared_factor⟩) (c_shared_factor : PySem.W.codeIn K cd_shared_factor "shared_factor" = true) (k_shared_factor : PySem.W.keepIn K (.ref f_shared_factor) = true) (a_rest_by_prime : PySem.W.nsIn K mainGlobals "rest_by_prime" = some (some (.ref f_rest_by_prime))) (l_rest_by_prime : K.lookup f_rest_by_prime = some ⟨oc_rest_by_prime, od_rest_by_prime, .func (PySem.W.fnOf "rest_by_prime" "rest_by_prime" (defArgs s_rest_by_prime) (defBody s_rest_by_prime) (defScope s_rest_by_prime) .none kV_rest_by_prime dc_rest_by_prime pm_rest_by_prime an_rest_by_prime cd_rest_by_prime ct_rest_by_prime), sl_rest_by_prime⟩) (c_rest_by_prime : PySem.W.codeIn K cd_rest_by_prime "rest_by_prime" = true) (k_rest_by_prime : PySem.W.keepIn K (.ref f_rest_by_prime) = true) (a_is_surely_single : PySem.W.nsIn K mainGlobals "is_surely_single" = some (some (.ref f_is_surely_single))) (l_is_surely_single : K.lookup f_is_surely_single = some ⟨oc_is_surely_single, od_is_surely_single, .func (PySem.W.fnOf "is_surely_single" "is_surely_single" (defArgs s_is_surely_single) (defBody s_is_surely_single) (defScope s_is_surely_single) .none kV_is_surely_single dc_is_surely_single pm_is_surely_single an_is_surely_single cd_is_surely_single ct_is_surely_single), sl_is_surely_single⟩) (c_is_surely_single : PySem.W.codeIn K cd_is_surely_single "is_surely_single" = true) (k_is_surely_single : PySem.W.keepIn K (.ref f_is_surely_single) = true) (a_single_factors : PySem.W.nsIn K mainGlobals "single_factors" = some (some (.ref f_single_factors))) (l_single_factors : K.lookup f_single_factors = some ⟨oc_single_factors, od_single_factors, .func (PySem.W.fnOf "single_factors" "single_factors" (defArgs s_single_factors) (defBody s_single_factors) (defScope s_single_factors) .none kV_single_factors dc_single_factors pm_single_factors an_single_factors cd_single_factors ct_single_factors), sl_single_factors⟩) (c_single_factors : PySem.W.codeIn K cd_single_factors "single_factors" = true) (k_single_factors : PySem.W.keepIn K (.ref f_single_factors) = true) (a_fraction_root : PySem.W.nsIn K mainGlobals "fraction_root" = some (some (.ref f_fraction_root))) (l_fraction_root : K.lookup f_fraction_root = some ⟨oc_fraction_root, od_fraction_root, .func (PySem.W.fnOf "fraction_root" "fraction_root" (defArgs s_fraction_root) (defBody s_fraction_root) (defScope s_fraction_root) .none kV_fraction_root dc_fraction_root pm_fraction_root an_fraction_root cd_fraction_root ct_fraction_root), sl_fraction_root⟩) (c_fraction_root : PySem.W.codeIn K cd_fraction_root "fraction_root" = true) (k_fraction_root : PySem.W.keepIn K (.ref f_fraction_root) = true) (a_remainder_at : PySem.W.nsIn K mainGlobals "remainder_at" = some (some (.ref f_remainder_at))) (l_remainder_at : K.lookup f_remainder_at = some ⟨oc_remainder_at, od_remainder_at, .func (PySem.W.fnOf "remainder_at" "remainder_at" (defArgs s_remainder_at) (defBody s_remainder_at) (defScope s_remainder_at) .none kV_remainder_at dc_remainder_at pm_remainder_at an_remainder_at cd_remainder_at ct_remainder_at), sl_remainder_at⟩) (c_remainder_at : PySem.W.codeIn K cd_remainder_at "remainder_at" = true) (k_remainder_at : PySem.W.keepIn K (.ref f_remainder_at) = true) (a_roots_by : PySem.W.nsIn K mainGlobals "roots_by" = some (some (.ref f_roots_by))) (l_roots_by : K.lookup f_roots_by = some ⟨oc_roots_by, od_roots_by, .func (PySem.W.fnOf "roots_by" "roots_by" (defArgs s_roots_by) (defBody s_roots_by) (defScope s_roots_by) .none kV_roots_by dc_roots_by pm_roots_by an_roots_by cd_roots_by ct_roots_by), sl_roots_by⟩) (c_roots_by : PySem.W.codeIn K cd_roots_by "roots_by" = true) (k_roots_by : PySem.W.keepIn K (.ref f_roots_by) = true) (a_has_clear_roots : PySem.W.nsIn K mainGlobals "has_clear_roots" = some (some (.ref f_has_clear_roots))) (l_has_clear_roots : K.lookup f_has_clear_roots = some ⟨oc_has_clear_roots, od_has_clear_roots, .func (PySem.W.fnOf "has_clear_roots" "has_clear_roots" (defArgs s_has_clear_roots) (defBody s_has_clear_roots) (defScope s_has_clear_roots) .none kV_has_clear_roots dc_has_clear_roots pm_has_clear_roots an_has_clear_roots cd_has_clear_roots ct_has_clear_roots), sl_has_clear_roots⟩) (c_has_clear_roots : PySem.W.codeIn K cd_has_clear_roots "has_clear_roots" = true) (k_has_clear_roots : PySem.W.keepIn K (.ref f_has_clear_roots) = true) (a_lifted : PySem.W.nsIn K mainGlobals "lifted" = some (some (.ref f_lifted))) (l_lifted : K.lookup f_lifted = some ⟨oc_lifted, od_lifted, .func (PySem.W.fnOf "lifted" "lifted" (defArgs s_lifted) (defBody s_lifted) (defScope s_lifted) .none kV_lifted dc_lifted pm_lifted an_lifted cd_lifted ct_lifted), sl_lifted⟩) (c_lifted : PySem.W.codeIn K cd_lifted "lifted" = true) (k_lifted : PySem.W.keepIn K (.ref f_lifted) = true) (a_is_turn : PySem.W.nsIn K mainGlobals "is_turn" = some (some (.ref f_is_turn))) (l_is_turn : K.lookup f_is_turn = some ⟨oc_is_turn, od_is_turn, .func (PySem.W.fnOf "is_turn" "is_turn" (defArgs s_is_turn) (defBody s_is_turn) (defScope s_is_turn) .none kV_is_turn dc_is_turn pm_is_turn an_is_turn cd_is_turn ct_is_turn), sl_is_turn⟩) (c_is_turn : PySem.W.codeIn K cd_is_turn "is_turn" = true) (k_is_turn : PySem.W.keepIn K (.ref f_is_turn) = true) (a_check_turn : PySem.W.nsIn K mainGlobals "check_turn" = some (some (.ref f_check_turn))) (l_check_turn : K.lookup f_check_turn = some ⟨oc_check_turn, od_check_turn, .func (PySem.W.fnOf "check_turn" "check_turn" (defArgs s_check_turn) (defBody s_check_turn) (defScope s_check_turn) .none kV_check_turn dc_check_turn pm_check_turn an_check_turn cd_check_turn ct_check_turn), sl_check_turn⟩) (c_check_turn : PySem.W.codeIn K cd_check_turn "check_turn" = true) (k_check_turn : PySem.W.keepIn K (.ref f_check_turn) = true) (a_check_turns : PySem.W.nsIn K mainGlobals "check_turns" = some (some (.ref f_check_turns))) (l_check_turns : K.lookup f_check_turns = some ⟨oc_check_turns, od_check_turns, .func (PySem.W.fnOf "check_turns" "check_turns" (defArgs s_check_turns) (defBody s_check_turns) (defScope s_check_turns) .none kV_check_turns dc_check_turns pm_check_turns an_check_turns cd_check_turns ct_check_turns), sl_check_turns⟩) (c_check_turns : PySem.W.codeIn K cd_check_turns "check_turns" = true) (k_check_turns : PySem.W.keepIn K (.ref f_check_turns) = true) (a_turn_of : PySem.W.nsIn K mainGlobals "turn_of" = some (some (.ref f_turn_of))) (l_turn_of : K.lookup f_turn_of = some ⟨oc_turn_of, od_turn_of, .func (PySem.W.fnOf "turn_of" "turn_of" (defArgs s_turn_of) (defBody s_turn_of) (defScope s_turn_of) .none kV_turn_of dc_turn_of pm_turn_of an_turn_of cd_turn_of ct_turn_of), sl_turn_of⟩) (c_turn_of : PySem.W.codeIn K cd_turn_of "turn_of" = true) (k_turn_of : PySem.W.keepIn K (.ref f_turn_of) = true) (a_join_turns : PySem.W.nsIn K mainGlobals "join_turns" = some (some (.ref f_join_turns))) (l_join_turns : K.lookup f_join_turns = some ⟨oc_join_turns, od_join_turns, .func (PySem.W.fnOf "join_turns" "join_turns" (defArgs s_join_turns) (defBody s_join_turns) (defScope s_join_turns) .none kV_join_turns dc_join_turns pm_join_turns an_join_turns cd_join_turns ct_join_turns), sl_join_turns⟩) (c_join_turns : PySem.W.codeIn K cd_join_turns "join_turns" = true) (k_join_turns : PySem.W.keepIn K (.ref f_join_turns) = true) (a_back : PySem.W.nsIn K mainGlobals "back" = some (some (.ref f_back))) (l_back : K.lookup f_back = some ⟨oc_back, od_back, .func (PySem.W.fnOf "back" "back" (defArgs s_back) (defBody s_back) (defScope s_back) .none kV_back dc_back pm_back an_back cd_back ct_back), sl_back⟩) (c_back : PySem.W.codeIn K cd_back "back" = true) (k_back : PySem.W.keepIn K (.ref f_back) = true) (a_join_powers : PySem.W.nsIn K mainGlobals "join_powers" = some (some (.ref f_join_powers))) (l_join_powers : K.lookup f_join_powers = some ⟨oc_join_powers, od_join_powers, .func (PySem.W.fnOf "join_powers" "join_powers" (defArgs s_join_powers) (defBody s_join_powers) (defScope s_join_powers) .none kV_join_powers dc_join_powers pm_join_powers an_join_powers cd_join_powers ct_join_powers), sl_join_powers⟩) (c_join_powers : PySem.W.codeIn K cd_join_powers "join_powers" = true) (k_join_powers : PySem.W.keepIn K (.ref f_join_powers) = true) (a_turn_times : PySem.W.nsIn K mainGlobals "turn_times" = some (some (.ref f_turn_times))) (l_turn_times : K.lookup f_turn_times = some ⟨oc_turn_times, od_turn_times, .func (PySem.W.fnOf "turn_times" "turn_times" (defArgs s_turn_times) (defBody s_turn_times) (defScope s_turn_times) .none kV_turn_times dc_turn_times pm_turn_times an_turn_times cd_turn_times ct_turn_times), sl_turn_times⟩) (c_turn_times : PySem.W.codeIn K cd_turn_times "turn_times" = true) (k_turn_times : PySem.W.keepIn K (.ref f_turn_times) = true) (a_in_order : PySem.W.nsIn K mainGlobals "in_order" = some (some (.ref f_in_order))) (l_in_order : K.lookup f_in_order = some ⟨oc_in_order, od_in_order, .func (PySem.W.fnOf "in_order" "in_order" (defArgs s_in_order) (defBody s_in_order) (defScope s_in_order) .none kV_in_order dc_in_order pm_in_order an_in_order cd_in_order ct_in_order), sl_in_order⟩) (c_in_order : PySem.W.codeIn K cd_in_order "in_order" = true) (k_in_order : PySem.W.keepIn K (.ref f_in_order) = true) (a_order_key : PySem.W.nsIn K mainGlobals "order_key" = some (some (.ref f_order_key))) (l_order_key : K.lookup f_order_key = some ⟨oc_order_key, od_order_key, .func (PySem.W.fnOf "order_key" "order_key" (defArgs s_order_key) (defBody s_order_key) (defScope s_order_key) .none kV_order_key dc_order_key pm_order_key an_order_key cd_order_key ct_order_key), sl_order_key⟩) (c_order_key : PySem.W.codeIn K cd_order_key "order_key" = true) (k_order_key : PySem.W.keepIn K (.ref f_order_key) = true) (a_is_wave : PySem.W.nsIn K mainGlobals "is_wave" = some (some (.ref f_is_wave))) (l_is_wave : K.lookup f_is_wave = some ⟨oc_is_wave, od_is_wave, .func (PySem.W.fnOf "is_wave" "is_wave" (defArgs s_is_wave) (defBody s_is_wave) (defScope s_is_wave) .none kV_is_wave dc_is_wave pm_is_wave an_is_wave cd_is_wave ct_is_wave), sl_is_wave⟩) (c_is_wave : PySem.W.codeIn K cd_is_wave "is_wave" = true) (k_is_wave : PySem.W.keepIn K (.ref f_is_wave) = true) (a_check_wave : PySem.W.nsIn K mainGlobals "check_wave" = some (some (.ref f_check_wave))) (l_check_wave : K.lookup f_check_wave = some ⟨oc_check_wave, od_check_wave, .func (PySem.W.fnOf "check_wave" "check_wave" (defArgs s_check_wave) (defBody s_check_wave) (defScope s_check_wave) .none kV_check_wave dc_check_wave pm_check_wave an_check_wave cd_check_wave ct_check_wave), sl_check_wave⟩) (c_check_wave : PySem.W.codeIn K cd_check_wave "check_wave" = true) (k_check_wave : PySem.W.keepIn K (.ref f_check_wave) = true) (a_made_wave : PySem.W.nsIn K mainGlobals "made_wave" = some (some (.ref f_made_wave))) (l_made_wave : K.lookup f_made_wave = some ⟨oc_made_wave, od_made_wave, .func (PySem.W.fnOf "made_wave" "made_wave" (defArgs s_made_wave) (defBody s_made_wave) (defScope s_made_wave) .none kV_made_wave dc_made_wave pm_made_wave an_made_wave cd_made_wave ct_made_wave), sl_made_wave⟩) (c_made_wave : PySem.W.codeIn K cd_made_wave "made_wave" = true) (k_made_wave : PySem.W.keepIn K (.ref f_made_wave) = true) (a_pair_at : PySem.W.nsIn K mainGlobals "pair_at" = some (some (.ref f_pair_at))) (l_pair_at : K.lookup f_pair_at = some ⟨oc_pair_at, od_pair_at, .func (PySem.W.fnOf "pair_at" "pair_at" (defArgs s_pair_at) (defBody s_pair_at) (defScope s_pair_at) .none kV_pair_at dc_pair_at pm_pair_at an_pair_at cd_pair_at ct_pair_at), sl_pair_at⟩) (c_pair_at : PySem.W.codeIn K cd_pair_at "pair_at" = true) (k_pair_at : PySem.W.keepIn K (.ref f_pair_at) = true) (a_pair_product : PySem.W.nsIn K mainGlobals "pair_product" = some (some (.ref f_pair_product))) (l_pair_product : K.lookup f_pair_product = some ⟨oc_pair_product, od_pair_product, .func (PySem.W.fnOf "pair_product" "pair_product" (defArgs s_pair_product) (defBody s_pair_product) (defScope s_pair_product) .none kV_pair_product dc_pair_product pm_pair_product an_pair_product cd_pair_product ct_pair_product), sl_pair_product⟩) (c_pair_product : PySem.W.codeIn K cd_pair_product "pair_product" = true) (k_pair_product : PySem.W.keepIn K (.ref f_pair_product) = true) (a_mirrored : PySem.W.nsIn K mainGlobals "mirrored" = some (some (.ref f_mirrored))) (l_mirrored : K.lookup f_mirrored = some ⟨oc_mirrored, od_mirrored, .func (PySem.W.fnOf "mirrored" "mirrored" (defArgs s_mirrored) (defBody s_mirrored) (defScope s_mirrored) .none kV_mirrored dc_mirrored pm_mirrored an_mirrored cd_mirrored ct_mirrored), sl_mirrored⟩) (c_mirrored : PySem.W.codeIn K cd_mirrored "mirrored" = true) (k_mirrored : PySem.W.keepIn K (.ref f_mirrored) = true) (a_harmonics_of : PySem.W.nsIn K mainGlobals "harmonics_of" = some (some (.ref f_harmonics_of))) (l_harmonics_of : K.lookup f_harmonics_of = some ⟨oc_harmonics_of, od_harmonics_of, .func (PySem.W.fnOf "harmonics_of" "harmonics_of" (defArgs s_harmonics_of) (defBody s_harmonics_of) (defScope s_harmonics_of) .none kV_harmonics_of dc_harmonics_of pm_harmonics_of an_harmonics_of cd_harmonics_of ct_harmonics_of), sl_harmonics_of⟩) (c_harmonics_of : PySem.W.codeIn K cd_harmonics_of "harmonics_of" = true) (k_harmonics_of : PySem.W.keepIn K (.ref f_harmonics_of) = true) (a_common_size : PySem.W.nsIn K mainGlobals "common_size" = some (some (.ref f_common_size))) (l_common_size : K.lookup f_common_size = some ⟨oc_common_size, od_common_size, .func (PySem.W.fnOf "common_size" "common_size" (defArgs s_common_size) (defBody s_common_size) (defScope s_common_size) .none kV_common_size dc_common_size pm_common_size an_common_size cd_common_size ct_common_size), sl_common_size⟩) (c_common_size : PySem.W.codeIn K cd_common_size "common_size" = true) (k_common_size : PySem.W.keepIn K (.ref f_common_size) = true) (a_whole_wave : PySem.W.nsIn K mainGlobals "whole_wave" = some (some (.ref f_whole_wave))) (l_whole_wave : K.lookup f_whole_wave = some ⟨oc_whole_wave, od_whole_wave, .func (PySem.W.fnOf "whole_wave" "whole_wave" (defArgs s_whole_wave) (defBody s_whole_wave) (defScope s_whole_wave) .none kV_whole_wave dc_whole_wave pm_whole_wave an_whole_wave cd_whole_wave ct_whole_wave), sl_whole_wave⟩) (c_whole_wave : PySem.W.codeIn K cd_whole_wave "whole_wave" = true) (k_whole_wave : PySem.W.keepIn K (.ref f_whole_wave) = true) (a_half_row : PySem.W.nsIn K mainGlobals "half_row" = some (some (.ref f_half_row))) (l_half_row : K.lookup f_half_row = some ⟨oc_half_row, od_half_row, .func (PySem.W.fnOf "half_row" "half_row" (defArgs s_half_row) (defBody s_half_row) (defScope s_half_row) .none kV_half_row dc_half_row pm_half_row an_half_row cd_half_row ct_half_row), sl_half_row⟩) (c_half_row : PySem.W.codeIn K cd_half_row "half_row" = true) (k_half_row : PySem.W.keepIn K (.ref f_half_row) = true) (a_quarter_rows : PySem.W.nsIn K mainGlobals "quarter_rows" = some (some (.ref f_quarter_rows))) (l_quarter_rows : K.lookup f_quarter_rows = some ⟨oc_quarter_rows, od_quarter_rows, .func (PySem.W.fnOf "quarter_rows" "quarter_rows" (defArgs s_quarter_rows) (defBody s_quarter_rows) (defScope s_quarter_rows) .none kV_quarter_rows dc_quarter_rows pm_quarter_rows an_quarter_rows cd_quarter_rows ct_quarter_rows), sl_quarter_rows⟩) (c_quarter_rows : PySem.W.codeIn K cd_quarter_rows "quarter_rows" = true) (k_quarter_rows : PySem.W.keepIn K (.ref f_quarter_rows) = true) (a_zero_turn : PySem.W.nsIn K mainGlobals "zero_turn" = some (some (.ref f_zero_turn))) (l_zero_turn : K.lookup f_zero_turn = some ⟨oc_zero_turn, od_zero_turn, .func (PySem.W.fnOf "zero_turn" "zero_turn" (defArgs s_zero_turn) (defBody s_zero_turn) (defScope s_zero_turn) .none kV_zero_turn dc_zero_turn pm_zero_turn an_zero_turn cd_zero_turn ct_zero_turn), sl_zero_turn⟩) (c_zero_turn : PySem.W.codeIn K cd_zero_turn "zero_turn" = true) (k_zero_turn : PySem.W.keepIn K (.ref f_zero_turn) = true) (a_are_alike : PySem.W.nsIn K mainGlobals "are_alike" = some (some (.ref f_are_alike))) (l_are_alike : K.lookup f_are_alike = some ⟨oc_are_alike, od_are_alike, .func (PySem.W.fnOf "are_alike" "are_alike" (defArgs s_are_alike) (defBody s_are_alike) (defScope s_are_alike) .none kV_are_alike dc_are_alike pm_are_alike an_are_alike cd_are_alike ct_are_alike), sl_are_alike⟩) (c_are_alike : PySem.W.codeIn K cd_are_alike "are_alike" = true) (k_are_alike : PySem.W.keepIn K (.ref f_are_alike) = true) (a_are_mirror_alike : PySem.W.nsIn K mainGlobals "are_mirror_alike" = some (some (.ref f_are_mirror_alike))) (l_are_mirror_alike : K.lookup f_are_mirror_alike = some ⟨oc_are_mirror_alike, od_are_mirror_alike, .func (PySem.W.fnOf "are_mirror_alike" "are_mirror_alike" (defArgs s_are_mirror_alike) (defBody s_are_mirror_alike) (defScope s_are_mirror_alike) .none kV_are_mirror_alike dc_are_mirror_alike pm_are_mirror_alike an_are_mirror_alike cd_are_mirror_alike ct_are_mirror_alike), sl_are_mirror_alike⟩) (c_are_mirror_alike : PySem.W.codeIn K cd_are_mirror_alike "are_mirror_alike" = true) (k_are_mirror_alike : PySem.W.keepIn K (.ref f_are_mirror_alike) = true) (a_has_axis : PySem.W.nsIn K mainGlobals "has_axis" = some (some (.ref f_has_axis))) (l_has_axis : K.lookup f_has_axis = some ⟨oc_has_axis, od_has_axis, .func (PySem.W.fnOf "has_axis" "has_axis" (defArgs s_has_axis) (defBody s_has_axis) (defScope s_has_axis) .none kV_has_axis dc_has_axis pm_has_axis an_has_axis cd_has_axis ct_has_axis), sl_has_axis⟩) (c_has_axis : PySem.W.codeIn K cd_has_axis "has_axis" = true) (k_has_axis : PySem.W.keepIn K (.ref f_has_axis) = true) (a_fold : PySem.W.nsIn K mainGlobals "fold" = some (some (.ref f_fold))) (l_fold : K.lookup f_fold = some ⟨oc_fold, od_fold, .func (PySem.W.fnOf "fold" "fold" (defArgs s_fold) (defBody s_fold) (defScope s_fold) .none kV_fold dc_fold pm_fold an_fold cd_fold ct_fold), sl_fold⟩) (c_fold : PySem.W.codeIn K cd_fold "fold" = true) (k_fold : PySem.W.keepIn K (.ref f_fold) = true) (a_parting : PySem.W.nsIn K mainGlobals "parting" = some (some (.ref f_parting))) (l_parting : K.lookup f_parting = some ⟨oc_parting, od_parting, .func (PySem.W.fnOf "parting" "parting" (defArgs s_parting) (defBody s_parting) (defScope s_parting) .none kV_parting dc_parting pm_parting an_parting cd_parting ct_parting), sl_parting⟩) (c_parting : PySem.W.codeIn K cd_parting "parting" = true) (k_parting : PySem.W.keepIn K (.ref f_parting) = true) (a_length_square : PySem.W.nsIn K mainGlobals "length_square" = some (some (.ref f_length_square))) (l_length_square : K.lookup f_length_square = some ⟨oc_length_square, od_length_square, .func (PySem.W.fnOf "length_square" "length_square" (defArgs s_length_square) (defBody s_length_square) (defScope s_length_square) .none kV_length_square dc_length_square pm_length_square an_length_square cd_length_square ct_length_square), sl_length_square⟩) (c_length_square : PySem.W.codeIn K cd_length_square "length_square" = true) (k_length_square : PySem.W.keepIn K (.ref f_length_square) = true) (a_steps_between : PySem.W.nsIn K mainGlobals "steps_between" = some (some (.ref f_steps_between))) (l_steps_between : K.lookup f_steps_between = some ⟨oc_steps_between, od_steps_between, .func (PySem.W.fnOf "steps_between" "steps_between" (defArgs s_steps_between) (defBody s_steps_between) (defScope s_steps_between) .none kV_steps_between dc_steps_between pm_steps_between an_steps_between cd_steps_between ct_steps_between), sl_steps_between⟩) (c_steps_between : PySem.W.codeIn K cd_steps_between "steps_between" = true) (k_steps_between : PySem.W.keepIn K (.ref f_steps_between) = true) (a_step_between : PySem.W.nsIn K mainGlobals "step_between" = some (some (.ref f_step_between))) (l_step_between : K.lookup f_step_between = some ⟨oc_step_between, od_step_between, .func (PySem.W.fnOf "step_between" "step_between" (defArgs s_step_between) (defBody s_step_between) (defScope s_step_between) .none kV_step_between dc_step_between pm_step_between an_step_between cd_step_between ct_step_between), sl_step_between⟩) (c_step_between : PySem.W.codeIn K cd_step_between "step_between" = true) (k_step_between : PySem.W.keepIn K (.ref f_step_between) = true) (a_have_one_turn : PySem.W.nsIn K mainGlobals "have_one_turn" = some (some (.ref f_have_one_turn))) (l_have_one_turn : K.lookup f_have_one_turn = some ⟨oc_have_one_turn, od_have_one_turn, .func (PySem.W.fnOf "have_one_turn" "have_one_turn" (defArgs s_have_one_turn) (defBody s_have_one_turn) (defScope s_have_one_turn) .none kV_have_one_turn dc_have_one_turn pm_have_one_turn an_have_one_turn cd_have_one_turn ct_have_one_turn), sl_have_one_turn⟩) (c_have_one_turn : PySem.W.codeIn K cd_have_one_turn "have_one_turn" = true) (k_have_one_turn : PySem.W.keepIn K (.ref f_have_one_turn) = true) (a_carrying_turns : PySem.W.nsIn K mainGlobals "carrying_turns" = some (some (.ref f_carrying_turns))) (l_carrying_turns : K.lookup f_carrying_turns = some ⟨oc_carrying_turns, od_carrying_turns, .func (PySem.W.fnOf "carrying_turns" "carrying_turns" (defArgs s_carrying_turns) (defBody s_carrying_turns) (defScope s_carrying_turns) .none kV_carrying_turns dc_carrying_turns pm_carrying_turns an_carrying_turns cd_carrying_turns ct_carrying_turns), sl_carrying_turns⟩) (c_carrying_turns : PySem.W.codeIn K cd_carrying_turns "carrying_turns" = true) (k_carrying_turns : PySem.W.keepIn K (.ref f_carrying_turns) = true) (a_shared_step : PySem.W.nsIn K mainGlobals "shared_step" = some (some (.ref f_shared_step))) (l_shared_step : K.lookup f_shared_step = some ⟨oc_shared_step, od_shared_step, .func (PySem.W.fnOf "shared_step" "shared_step" (defArgs s_shared_step) (defBody s_shared_step) (defScope s_shared_step) .none kV_shared_step dc_shared_step pm_shared_step an_shared_step cd_shared_step ct_shared_step), sl_shared_step⟩) (c_shared_step : PySem.W.codeIn K cd_shared_step "shared_step" = true) (k_shared_step : PySem.W.keepIn K (.ref f_shared_step) = true) (a_turns_with_power : PySem.W.nsIn K mainGlobals "turns_with_power" = some (some (.ref f_turns_with_power))) (l_turns_with_power : K.lookup f_turns_with_power = some ⟨oc_turns_with_power, od_turns_with_power, .func (PySem.W.fnOf "turns_with_power" "turns_with_power" (defArgs s_turns_with_power) (defBody s_turns_with_power) (defScope s_turns_with_power) .none kV_turns_with_power dc_turns_with_power pm_turns_with_power an_turns_with_power cd_turns_with_power ct_turns_with_power), sl_turns_with_power⟩) (c_turns_with_power : PySem.W.codeIn K cd_turns_with_power "turns_with_power" = true) (k_turns_with_power : PySem.W.keepIn K (.ref f_turns_with_power) = true) (a_l_tap : PySem.W.nsIn K mainGlobals "_law_tap" = some (some (.ref f_l_tap))) (l_l_tap : K.lookup f_l_tap = some ⟨oc_l_tap, od_l_tap, .func (PySem.W.fnOf "_law_tap" "_law_tap" (defArgs s_l_tap) (defBody s_l_tap) (defScope s_l_tap) .none kV_l_tap dc_l_tap pm_l_tap an_l_tap cd_l_tap ct_l_tap), sl_l_tap⟩) (c_l_tap : PySem.W.codeIn K cd_l_tap "_law_tap" = true) (k_l_tap : PySem.W.keepIn K (.ref f_l_tap) = true) (a_l_dip : PySem.W.nsIn K mainGlobals "_law_dip" = some (some (.ref f_l_dip))) (l_l_dip : K.lookup f_l_dip = some ⟨oc_l_dip, od_l_dip, .func (PySem.W.fnOf "_law_dip" "_law_dip" (defArgs s_l_dip) (defBody s_l_dip) (defScope s_l_dip) .none kV_l_dip dc_l_dip pm_l_dip an_l_dip cd_l_dip ct_l_dip), sl_l_dip⟩) (c_l_dip : PySem.W.codeIn K cd_l_dip "_law_dip" = true) (k_l_dip : PySem.W.keepIn K (.ref f_l_dip) = true) (a_l_of : PySem.W.nsIn K mainGlobals "_law_of" = some (some (.ref f_l_of))) (l_l_of : K.lookup f_l_of = some ⟨oc_l_of, od_l_of, .func (PySem.W.fnOf "_law_of" "_law_of" (defArgs s_l_of) (defBody s_l_of) (defScope s_l_of) .none kV_l_of dc_l_of pm_l_of an_l_of cd_l_of ct_l_of), sl_l_of⟩) (c_l_of : PySem.W.codeIn K cd_l_of "_law_of" = true) (k_l_of : PySem.W.keepIn K (.ref f_l_of) = true) (a_l_gcd : PySem.W.nsIn K mainGlobals "_law_gcd" = some (some (.ref f_l_gcd))) (l_l_gcd : K.lookup f_l_gcd = some ⟨oc_l_gcd, od_l_gcd, .func (PySem.W.fnOf "_law_gcd" "_law_gcd" (defArgs s_l_gcd) (defBody s_l_gcd) (defScope s_l_gcd) .none kV_l_gcd dc_l_gcd pm_l_gcd an_l_gcd cd_l_gcd ct_l_gcd), sl_l_gcd⟩) (c_l_gcd : PySem.W.codeIn K cd_l_gcd "_law_gcd" = true) (k_l_gcd : PySem.W.keepIn K (.ref f_l_gcd) = true) (a_l_ratio : PySem.W.nsIn K mainGlobals "_law_ratio" = some (some (.ref f_l_ratio))) (l_l_ratio : K.lookup f_l_ratio = some ⟨oc_l_ratio, od_l_ratio, .func (PySem.W.fnOf "_law_ratio" "_law_ratio" (defArgs s_l_ratio) (defBody s_l_ratio) (defScope s_l_ratio) .none kV_l_ratio dc_l_ratio pm_l_ratio an_l_ratio cd_l_ratio ct_l_ratio), sl_l_ratio⟩) (c_l_ratio : PySem.W.codeIn K cd_l_ratio "_law_ratio" = true) (k_l_ratio : PySem.W.keepIn K (.ref f_l_ratio) = true) (a_l_div : PySem.W.nsIn K mainGlobals "_law_div" = some (some (.ref f_l_div))) (l_l_div : K.lookup f_l_div = some ⟨oc_l_div, od_l_div, .func (PySem.W.fnOf "_law_div" "_law_div" (defArgs s_l_div) (defBody s_l_div) (defScope s_l_div) .none kV_l_div dc_l_div pm_l_div an_l_div cd_l_div ct_l_div), sl_l_div⟩) (c_l_div : PySem.W.codeIn K cd_l_div "_law_div" = true) (k_l_div : PySem.W.keepIn K (.ref f_l_div) = true) (a_l_opp : PySem.W.nsIn K mainGlobals "_law_opp" = some (some (.ref f_l_opp))) (l_l_opp : K.lookup f_l_opp = some ⟨oc_l_opp, od_l_opp, .func (PySem.W.fnOf "_law_opp" "_law_opp" (defArgs s_l_opp) (defBody s_l_opp) (defScope s_l_opp) .none kV_l_opp dc_l_opp pm_l_opp an_l_opp cd_l_opp ct_l_opp), sl_l_opp⟩) (c_l_opp : PySem.W.codeIn K cd_l_opp "_law_opp" = true) (k_l_opp : PySem.W.keepIn K (.ref f_l_opp) = true) (a_l_dot : PySem.W.nsIn K mainGlobals "_law_dot" = some (some (.ref f_l_dot))) (l_l_dot : K.lookup f_l_dot = some ⟨oc_l_dot, od_l_dot, .func (PySem.W.fnOf "_law_dot" "_law_dot" (defArgs s_l_dot) (defBody s_l_dot) (defScope s_l_dot) .none kV_l_dot dc_l_dot pm_l_dot an_l_dot cd_l_dot ct_l_dot), sl_l_dot⟩) (c_l_dot : PySem.W.codeIn K cd_l_dot "_law_dot" = true) (k_l_dot : PySem.W.keepIn K (.ref f_l_dot) = true) (a_l_cross : PySem.W.nsIn K mainGlobals "_law_cross" = some (some (.ref f_l_cross))) (l_l_cross : K.lookup f_l_cross = some ⟨oc_l_cross, od_l_cross, .func (PySem.W.fnOf "_law_cross" "_law_cross" (defArgs s_l_cross) (defBody s_l_cross) (defScope s_l_cross) .none kV_l_cross dc_l_cross pm_l_cross an_l_cross cd_l_cross ct_l_cross), sl_l_cross⟩) (c_l_cross : PySem.W.codeIn K cd_l_cross "_law_cross" = true) (k_l_cross : PySem.W.keepIn K (.ref f_l_cross) = true) (a_l_back : PySem.W.nsIn K mainGlobals "_law_back" = some (some (.ref f_l_back))) (l_l_back : K.lookup f_l_back = some ⟨oc_l_back, od_l_back, .func (PySem.W.fnOf "_law_back" "_law_back" (defArgs s_l_back) (defBody s_l_back) (defScope s_l_back) .none kV_l_back dc_l_back pm_l_back an_l_back cd_l_back ct_l_back), sl_l_back⟩) (c_l_back : PySem.W.codeIn K cd_l_back "_law_back" = true) (k_l_back : PySem.W.keepIn K (.ref f_l_back) = true) (a_l_climb : PySem.W.nsIn K mainGlobals "_law_climb" = some (some (.ref f_l_climb))) (l_l_climb : K.lookup f_l_climb = some ⟨oc_l_climb, od_l_climb, .func (PySem.W.fnOf "_law_climb" "_law_climb" (defArgs s_l_climb) (defBody s_l_climb) (defScope s_l_climb) .none kV_l_climb dc_l_climb pm_l_climb an_l_climb cd_l_climb ct_l_climb), sl_l_climb⟩) (c_l_climb : PySem.W.codeIn K cd_l_climb "_law_climb" = true) (k_l_climb : PySem.W.keepIn K (.ref f_l_climb) = true) (a_l_angle : PySem.W.nsIn K mainGlobals "_law_angle" = some (some (.ref f_l_angle))) (l_l_angle : K.lookup f_l_angle = some ⟨oc_l_angle, od_l_angle, .func (PySem.W.fnOf "_law_angle" "_law_angle" (defArgs s_l_angle) (defBody s_l_angle) (defScope s_l_angle) .none kV_l_angle dc_l_angle pm_l_angle an_l_angle cd_l_angle ct_l_angle), sl_l_angle⟩) (c_l_angle : PySem.W.codeIn K cd_l_angle "_law_angle" = true) (k_l_angle : PySem.W.keepIn K (.ref f_l_angle) = true) (a_l_turn : PySem.W.nsIn K mainGlobals "_law_turn" = some (some (.ref f_l_turn))) (l_l_turn : K.lookup f_l_turn = some ⟨oc_l_turn, od_l_turn, .func (PySem.W.fnOf "_law_turn" "_law_turn" (defArgs s_l_turn) (defBody s_l_turn) (defScope s_l_turn) .none kV_l_turn dc_l_turn pm_l_turn an_l_turn cd_l_turn ct_l_turn), sl_l_turn⟩) (c_l_turn : PySem.W.codeIn K cd_l_turn "_law_turn" = true) (k_l_turn : PySem.W.keepIn K (.ref f_l_turn) = true) (a_l_bit : PySem.W.nsIn K mainGlobals "_law_bit" = some (some (.ref f_l_bit))) (l_l_bit : K.lookup f_l_bit = some ⟨oc_l_bit, od_l_bit, .func (PySem.W.fnOf "_law_bit" "_law_bit" (defArgs s_l_bit) (defBody s_l_bit) (defScope s_l_bit) .none kV_l_bit dc_l_bit pm_l_bit an_l_bit cd_l_bit ct_l_bit), sl_l_bit⟩) (c_l_bit : PySem.W.codeIn K cd_l_bit "_law_bit" = true) (k_l_bit : PySem.W.keepIn K (.ref f_l_bit) = true) (a_l_trim : PySem.W.nsIn K mainGlobals "_law_trim" = some (some (.ref f_l_trim))) (l_l_trim : K.lookup f_l_trim = some ⟨oc_l_trim, od_l_trim, .func (PySem.W.fnOf "_law_trim" "_law_trim" (defArgs s_l_trim) (defBody s_l_trim) (defScope s_l_trim) .none kV_l_trim dc_l_trim pm_l_trim an_l_trim cd_l_trim ct_l_trim), sl_l_trim⟩) (c_l_trim : PySem.W.codeIn K cd_l_trim "_law_trim" = true) (k_l_trim : PySem.W.keepIn K (.ref f_l_trim) = true) (a_l_turned : PySem.W.nsIn K mainGlobals "_law_turned" = some (some (.ref f_l_turned))) (l_l_turned : K.lookup f_l_turned = some ⟨oc_l_turned, od_l_turned, .func (PySem.W.fnOf "_law_turned" "_law_turned" (defArgs s_l_turned) (defBody s_l_turned) (defScope s_l_turned) .none kV_l_turned dc_l_turned pm_l_turned an_l_turned cd_l_turned ct_l_turned), sl_l_turned⟩) (c_l_turned : PySem.W.codeIn K cd_l_turned "_law_turned" = true) (k_l_turned : PySem.W.keepIn K (.ref f_l_turned) = true) (a_l_mirror : PySem.W.nsIn K mainGlobals "_law_mirror" = some (some (.ref f_l_mirror))) (l_l_mirror : K.lookup f_l_mirror = some ⟨oc_l_mirror, od_l_mirror, .func (PySem.W.fnOf "_law_mirror" "_law_mirror" (defArgs s_l_mirror) (defBody s_l_mirror) (defScope s_l_mirror) .none kV_l_mirror dc_l_mirror pm_l_mirror an_l_mirror cd_l_mirror ct_l_mirror), sl_l_mirror⟩) (c_l_mirror : PySem.W.codeIn K cd_l_mirror "_law_mirror" = true) (k_l_mirror : PySem.W.keepIn K (.ref f_l_mirror) = true) (a_l_plain : PySem.W.nsIn K mainGlobals "_law_plain" = some (some (.ref f_l_plain))) (l_l_plain : K.lookup f_l_plain = some ⟨oc_l_plain, od_l_plain, .func (PySem.W.fnOf "_law_plain" "_law_plain" (defArgs s_l_plain) (defBody s_l_plain) (defScope s_l_plain) .none kV_l_plain dc_l_plain pm_l_plain an_l_plain cd_l_plain ct_l_plain), sl_l_plain⟩) (c_l_plain : PySem.W.codeIn K cd_l_plain "_law_plain" = true) (k_l_plain : PySem.W.keepIn K (.ref f_l_plain) = true) (a_l_numbers : PySem.W.nsIn K mainGlobals "_law_numbers" = some (some (.ref f_l_numbers))) (l_l_numbers : K.lookup f_l_numbers = some ⟨oc_l_numbers, od_l_numbers, .func (PySem.W.fnOf "_law_numbers" "_law_numbers" (defArgs s_l_numbers) (defBody s_l_numbers) (defScope s_l_numbers) .none kV_l_numbers dc_l_numbers pm_l_numbers an_l_numbers cd_l_numbers ct_l_numbers), sl_l_numbers⟩) (c_l_numbers : PySem.W.codeIn K cd_l_numbers "_law_numbers" = true) (k_l_numbers : PySem.W.keepIn K (.ref f_l_numbers) = true) (a_l_shared : PySem.W.nsIn K mainGlobals "_law_shared" = some (some (.ref f_l_shared))) (l_l_shared : K.lookup f_l_shared = some ⟨oc_l_shared, od_l_shared, .func (PySem.W.fnOf "_law_shared" "_law_shared" (defArgs s_l_shared) (defBody s_l_shared) (defScope s_l_shared) .none kV_l_shared dc_l_shared pm_l_shared an_l_shared cd_l_shared ct_l_shared), sl_l_shared⟩) (c_l_shared : PySem.W.codeIn K cd_l_shared "_law_shared" = true) (k_l_shared : PySem.W.keepIn K (.ref f_l_shared) = true) (a_l_joint : PySem.W.nsIn K mainGlobals "_law_joint" = some (some (.ref f_l_joint))) (l_l_joint : K.lookup f_l_joint = some ⟨oc_l_joint, od_l_joint, .func (PySem.W.fnOf "_law_joint" "_law_joint" (defArgs s_l_joint) (defBody s_l_joint) (defScope s_l_joint) .none kV_l_joint dc_l_joint pm_l_joint an_l_joint cd_l_joint ct_l_joint), sl_l_joint⟩) (c_l_joint : PySem.W.codeIn K cd_l_joint "_law_joint" = true) (k_l_joint : PySem.W.keepIn K (.ref f_l_joint) = true) (a_l_settled : PySem.W.nsIn K mainGlobals "_law_settled" = some (some (.ref f_l_settled))) (l_l_settled : K.lookup f_l_settled = some ⟨oc_l_settled, od_l_settled, .func (PySem.W.fnOf "_law_settled" "_law_settled" (defArgs s_l_settled) (defBody s_l_settled) (defScope s_l_settled) .none kV_l_settled dc_l_settled pm_l_settled an_l_settled cd_l_settled ct_l_settled), sl_l_settled⟩) (c_l_settled : PySem.W.codeIn K cd_l_settled "_law_settled" = true) (k_l_settled : PySem.W.keepIn K (.ref f_l_settled) = true) (a_l_are_alike : PySem.W.nsIn K mainGlobals "_law_are_alike" = some (some (.ref f_l_are_alike))) (l_l_are_alike : K.lookup f_l_are_alike = some ⟨oc_l_are_alike, od_l_are_alike, .func (PySem.W.fnOf "_law_are_alike" "_law_are_alike" (defArgs s_l_are_alike) (defBody s_l_are_alike) (defScope s_l_are_alike) .none kV_l_are_alike dc_l_are_alike pm_l_are_alike an_l_are_alike cd_l_are_alike ct_l_are_alike), sl_l_are_alike⟩) (c_l_are_alike : PySem.W.codeIn K cd_l_are_alike "_law_are_alike" = true) (k_l_are_alike : PySem.W.keepIn K (.ref f_l_are_alike) = true) (a_l_spun : PySem.W.nsIn K mainGlobals "_law_spun" = some (some (.ref f_l_spun))) (l_l_spun : K.lookup f_l_spun = some ⟨oc_l_spun, od_l_spun, .func (PySem.W.fnOf "_law_spun" "_law_spun" (defArgs s_l_spun) (defBody s_l_spun) (defScope s_l_spun) .none kV_l_spun dc_l_spun pm_l_spun an_l_spun cd_l_spun ct_l_spun), sl_l_spun⟩) (c_l_spun : PySem.W.codeIn K cd_l_spun "_law_spun" = true) (k_l_spun : PySem.W.keepIn K (.ref f_l_spun) = true) (a_l_stepped : PySem.W.nsIn K mainGlobals "_law_stepped" = some (some (.ref f_l_stepped))) (l_l_stepped : K.lookup f_l_stepped = some ⟨oc_l_stepped, od_l_stepped, .func (PySem.W.fnOf "_law_stepped" "_law_stepped" (defArgs s_l_stepped) (defBody s_l_stepped) (defScope s_l_stepped) .none kV_l_stepped dc_l_stepped pm_l_stepped an_l_stepped cd_l_stepped ct_l_stepped), sl_l_stepped⟩) (c_l_stepped : PySem.W.codeIn K cd_l_stepped "_law_stepped" = true) (k_l_stepped : PySem.W.keepIn K (.ref f_l_stepped) = true) (a_l_common : PySem.W.nsIn K mainGlobals "_law_common" = some (some (.ref f_l_common))) (l_l_common : K.lookup f_l_common = some ⟨oc_l_common, od_l_common, .func (PySem.W.fnOf "_law_common" "_law_common" (defArgs s_l_common) (defBody s_l_common) (defScope s_l_common) .none kV_l_common dc_l_common pm_l_common an_l_common cd_l_common ct_l_common), sl_l_common⟩) (c_l_common : PySem.W.codeIn K cd_l_common "_law_common" = true) (k_l_common : PySem.W.keepIn K (.ref f_l_common) = true) (a_l_unit : PySem.W.nsIn K mainGlobals "_law_unit" = some (some (.ref f_l_unit))) (l_l_unit : K.lookup f_l_unit = some ⟨oc_l_unit, od_l_unit, .func (PySem.W.fnOf "_law_unit" "_law_unit" (defArgs s_l_unit) (defBody s_l_unit) (defScope s_l_unit) .none kV_l_unit dc_l_unit pm_l_unit an_l_unit cd_l_unit ct_l_unit), sl_l_unit⟩) (c_l_unit : PySem.W.codeIn K cd_l_unit "_law_unit" = true) (k_l_unit : PySem.W.keepIn K (.ref f_l_unit) = true) (a_l_drawn : PySem.W.nsIn K mainGlobals "_law_drawn" = some (some (.ref f_l_drawn))) (l_l_drawn : K.lookup f_l_drawn = some ⟨oc_l_drawn, od_l_drawn, .func (PySem.W.fnOf "_law_drawn" "_law_drawn" (defArgs s_l_drawn) (defBody s_l_drawn) (defScope s_l_drawn) .none kV_l_drawn dc_l_drawn pm_l_drawn an_l_drawn cd_l_drawn ct_l_drawn), sl_l_drawn⟩) (c_l_drawn : PySem.W.codeIn K cd_l_drawn "_law_drawn" = true) (k_l_drawn : PySem.W.keepIn K (.ref f_l_drawn) = true) (a_l_right : PySem.W.nsIn K mainGlobals "_law_right" = some (some (.ref f_l_right))) (l_l_right : K.lookup f_l_right = some ⟨oc_l_right, od_l_right, .func (PySem.W.fnOf "_law_right" "_law_right" (defArgs s_l_right) (defBody s_l_right) (defScope s_l_right) .none kV_l_right dc_l_right pm_l_right an_l_right cd_l_right ct_l_right), sl_l_right⟩) (c_l_right : PySem.W.codeIn K cd_l_right "_law_right" = true) (k_l_right : PySem.W.keepIn K (.ref f_l_right) = true) (a_law : PySem.W.nsIn K mainGlobals "law" = some (some (.ref f_law))) (l_law : K.lookup f_law = some ⟨oc_law, od_law, .func (PySem.W.fnOf "law" "law" (defArgs s_law) (defBody s_law) (defScope s_law) .none kV_law dc_law pm_law an_law cd_law ct_law), sl_law⟩) (c_law : PySem.W.codeIn K cd_law "law" = true) (k_law : PySem.W.keepIn K (.ref f_law) = true) (ac_CamError : PySem.W.nsIn K mainGlobals "CamError" = some (some (.ref c_CamError))) (ac_InvalidFraction : PySem.W.nsIn K mainGlobals "InvalidFraction" = some (some (.ref c_InvalidFraction))) (xL_InvalidFraction : K.lookup c_InvalidFraction = some (excClassObj nm_InvalidFraction q_InvalidFraction c_InvalidFraction N_InvalidFraction bs_InvalidFraction [.ref c_CamError, .type "ValueError", .type "Exception", .type "BaseException", .type "object"] true sn_InvalidFraction sub_InvalidFraction ab_InvalidFraction col_InvalidFraction dd_InvalidFraction m0_InvalidFraction m1_InvalidFraction m2_InvalidFraction m3_InvalidFraction m5_InvalidFraction "ValueError.__new__")) (sa_InvalidFraction : PySem.W.findIn K (.ref c_InvalidFraction) "__setattr__" = some (some (.builtin "object.__setattr__"))) (ga_InvalidFraction : PySem.W.findIn K (.ref c_InvalidFraction) "__getattribute__" = some (some (.builtin "BaseException.__getattribute__"))) (gg_InvalidFraction : PySem.W.findIn K (.ref c_InvalidFraction) "__getattr__" = some none) (nb_InvalidFraction : PySem.W.findIn K (.ref c_InvalidFraction) "given" = some none) (cl_InvalidFraction : PySem.W.findIn K (.ref c_InvalidFraction) "__class__" = some (some (.builtin "object.__class__"))) (mo_InvalidFraction : PySem.W.mroIn K c_InvalidFraction (.type "object") = some true) (kc_InvalidFraction : PySem.W.keepIn K (.ref c_InvalidFraction) = true) (ec_InvalidFraction : PySem.W.subIn K (.ref c_InvalidFraction) (.type "BaseException") = some true) (tc_InvalidFraction : PySem.W.typeIn K (.ref c_InvalidFraction) = some (.type "type")) (hd_InvalidFraction : PySem.W.hasDictIn K c_InvalidFraction = true) (ic_InvalidFraction : PySem.W.isClsIn K c_InvalidFraction = true) (ai_InvalidFraction : PySem.W.findIn K (.ref c_InvalidFraction) "__init__" = some (some (.ref i_InvalidFraction))) (ti_InvalidFraction : PySem.W.typeIn K (.ref i_InvalidFraction) = some (.type "function")) (li_InvalidFraction : K.lookup i_InvalidFraction = some ⟨oci_InvalidFraction, odi_InvalidFraction, .func (PySem.W.fnOf "__init__" "InvalidFraction.__init__" (PySem.OwnG.iA ⟨8, 17, 8, 21⟩ ⟨8, 23, 8, 28⟩) (PySem.OwnG.iB ⟨9, 8, 9, 12⟩ ⟨9, 8, 9, 18⟩ ⟨9, 21, 9, 26⟩ ⟨9, 8, 9, 26⟩) PySem.OwnG.iS .none .none dci_InvalidFraction pmi_InvalidFraction ani_InvalidFraction cdi_InvalidFraction cti_InvalidFraction), sli_InvalidFraction⟩) (ci_InvalidFraction : PySem.W.codeIn K cdi_InvalidFraction "InvalidFraction.__init__" = true) (ss_InvalidFraction : PySem.W.subIn K (.ref c_InvalidFraction) (.ref c_InvalidFraction) = some true) (ac_InvalidTurn : PySem.W.nsIn K mainGlobals "InvalidTurn" = some (some (.ref c_InvalidTurn))) (xL_InvalidTurn : K.lookup c_InvalidTurn = some (excClassObj nm_InvalidTurn q_InvalidTurn c_InvalidTurn N_InvalidTurn bs_InvalidTurn [.ref c_CamError, .type "ValueError", .type "Exception", .type "BaseException", .type "object"] true sn_InvalidTurn sub_InvalidTurn ab_InvalidTurn col_InvalidTurn dd_InvalidTurn m0_InvalidTurn m1_InvalidTurn m2_InvalidTurn m3_InvalidTurn m5_InvalidTurn "ValueError.__new__")) (sa_InvalidTurn : PySem.W.findIn K (.ref c_InvalidTurn) "__setattr__" = some (some (.builtin "object.__setattr__"))) (ga_InvalidTurn : PySem.W.findIn K (.ref c_InvalidTurn) "__getattribute__" = some (some (.builtin "BaseException.__getattribute__"))) (gg_InvalidTurn : PySem.W.findIn K (.ref c_InvalidTurn) "__getattr__" = some none) (nb_InvalidTurn : PySem.W.findIn K (.ref c_InvalidTurn) "given" = some none) (cl_InvalidTurn : PySem.W.findIn K (.ref c_InvalidTurn) "__class__" = some (some (.builtin "object.__class__"))) (mo_InvalidTurn : PySem.W.mroIn K c_InvalidTurn (.type "object") = some true) (kc_InvalidTurn : PySem.W.keepIn K (.ref c_InvalidTurn) = true) (ec_InvalidTurn : PySem.W.subIn K (.ref c_InvalidTurn) (.type "BaseException") = some true) (tc_InvalidTurn : PySem.W.typeIn K (.ref c_InvalidTurn) = some (.type "type")) (hd_InvalidTurn : PySem.W.hasDictIn K c_InvalidTurn = true) (ic_InvalidTurn : PySem.W.isClsIn K c_InvalidTurn = true) (ai_InvalidTurn : PySem.W.findIn K (.ref c_InvalidTurn) "__init__" = some (some (.ref i_InvalidTurn))) (ti_InvalidTurn : PySem.W.typeIn K (.ref i_InvalidTurn) = some (.type "function")) (li_InvalidTurn : K.lookup i_InvalidTurn = some ⟨oci_InvalidTurn, odi_InvalidTurn, .func (PySem.W.fnOf "__init__" "InvalidTurn.__init__" (PySem.OwnG.iA ⟨12, 17, 12, 21⟩ ⟨12, 23, 12, 28⟩) (PySem.OwnG.iB ⟨13, 8, 13, 12⟩ ⟨13, 8, 13, 18⟩ ⟨13, 21, 13, 26⟩ ⟨13, 8, 13, 26⟩) PySem.OwnG.iS .none .none dci_InvalidTurn pmi_InvalidTurn ani_InvalidTurn cdi_InvalidTurn cti_InvalidTurn), sli_InvalidTurn⟩) (ci_InvalidTurn : PySem.W.codeIn K cdi_InvalidTurn "InvalidTurn.__init__" = true) (ss_InvalidTurn : PySem.W.subIn K (.ref c_InvalidTurn) (.ref c_InvalidTurn) = some true) (ac_InvalidWave : PySem.W.nsIn K mainGlobals "InvalidWave" = some (some (.ref c_InvalidWave))) (xL_InvalidWave : K.lookup c_InvalidWave = some (excClassObj nm_InvalidWave q_InvalidWave c_InvalidWave N_InvalidWave bs_InvalidWave [.ref c_CamError, .type "ValueError", .type "Exception", .type "BaseException", .type "object"] true sn_InvalidWave sub_InvalidWave ab_InvalidWave col_InvalidWave dd_InvalidWave m0_InvalidWave m1_InvalidWave m2_InvalidWave m3_InvalidWave m5_InvalidWave "ValueError.__new__")) (sa_InvalidWave : PySem.W.findIn K (.ref c_InvalidWave) "__setattr__" = some (some (.builtin "object.__setattr__"))) (ga_InvalidWave : PySem.W.findIn K (.ref c_InvalidWave) "__getattribute__" = some (some (.builtin "BaseException.__getattribute__"))) (gg_InvalidWave : PySem.W.findIn K (.ref c_InvalidWave) "__getattr__" = some none) (nb_InvalidWave : PySem.W.findIn K (.ref c_InvalidWave) "given" = some none) (cl_InvalidWave : PySem.W.findIn K (.ref c_InvalidWave) "__class__" = some (some (.builtin "object.__class__"))) (mo_InvalidWave : PySem.W.mroIn K c_InvalidWave (.type "object") = some true) (kc_InvalidWave : PySem.W.keepIn K (.ref c_InvalidWave) = true) (ec_InvalidWave : PySem.W.subIn K (.ref c_InvalidWave) (.type "BaseException") = some true) (tc_InvalidWave : PySem.W.typeIn K (.ref c_InvalidWave) = some (.type "type")) (hd_InvalidWave : PySem.W.hasDictIn K c_InvalidWave = true) (ic_InvalidWave : PySem.W.isClsIn K c_InvalidWave = true) (ai_InvalidWave : PySem.W.findIn K (.ref c_InvalidWave) "__init__" = some (some (.ref i_InvalidWave))) (ti_InvalidWave : PySem.W.typeIn K (.ref i_InvalidWave) = some (.type "function")) (li_InvalidWave : K.lookup i_InvalidWave = some ⟨oci_InvalidWave, odi_InvalidWave, .func (PySem.W.fnOf "__init__" "InvalidWave.__init__" (PySem.OwnG.iA ⟨16, 17, 16, 21⟩ ⟨16, 23, 16, 28⟩) (PySem.OwnG.iB ⟨17, 8, 17, 12⟩ ⟨17, 8, 17, 18⟩ ⟨17, 21, 17, 26⟩ ⟨17, 8, 17, 26⟩) PySem.OwnG.iS .none .none dci_InvalidWave pmi_InvalidWave ani_InvalidWave cdi_InvalidWave cti_InvalidWave), sli_InvalidWave⟩) (ci_InvalidWave : PySem.W.codeIn K cdi_InvalidWave "InvalidWave.__init__" = true) (ss_InvalidWave : PySem.W.subIn K (.ref c_InvalidWave) (.ref c_InvalidWave) = some true) (ac_InvalidTurns : PySem.W.nsIn K mainGlobals "InvalidTurns" = some (some (.ref c_InvalidTurns))) (xL_InvalidTurns : K.lookup c_InvalidTurns = some (excClassObj nm_InvalidTurns q_InvalidTurns c_InvalidTurns N_InvalidTurns bs_InvalidTurns [.ref c_CamError, .type "ValueError", .type "Exception", .type "BaseException", .type "object"] true sn_InvalidTurns sub_InvalidTurns ab_InvalidTurns col_InvalidTurns dd_InvalidTurns m0_InvalidTurns m1_InvalidTurns m2_InvalidTurns m3_InvalidTurns m5_InvalidTurns "ValueError.__new__")) (sa_InvalidTurns : PySem.W.findIn K (.ref c_InvalidTurns) "__setattr__" = some (some (.builtin "object.__setattr__"))) (ga_InvalidTurns : PySem.W.findIn K (.ref c_InvalidTurns) "__getattribute__" = some (some (.builtin "BaseException.__getattribute__"))) (gg_InvalidTurns : PySem.W.findIn K (.ref c_InvalidTurns) "__getattr__" = some none) (nb_InvalidTurns : PySem.W.findIn K (.ref c_InvalidTurns) "index" = some none) (cl_InvalidTurns : PySem.W.findIn K (.ref c_InvalidTurns) "__class__" = some (some (.builtin "object.__class__"))) (mo_InvalidTurns : PySem.W.mroIn K c_InvalidTurns (.type "object") = some true) (kc_InvalidTurns : PySem.W.keepIn K (.ref c_InvalidTurns) = true) (ec_InvalidTurns : PySem.W.subIn K (.ref c_InvalidTurns) (.type "BaseException") = some true) (tc_InvalidTurns : PySem.W.typeIn K (.ref c_InvalidTurns) = some (.type "type")) (hd_InvalidTurns : PySem.W.hasDictIn K c_InvalidTurns = true) (ic_InvalidTurns : PySem.W.isClsIn K c_InvalidTurns = true) (ai_InvalidTurns : PySem.W.findIn K (.ref c_InvalidTurns) "__init__" = some (some (.ref i_InvalidTurns))) (ti_InvalidTurns : PySem.W.typeIn K (.ref i_InvalidTurns) = some (.type "function")) (li_InvalidTurns : K.lookup i_InvalidTurns = some ⟨oci_InvalidTurns, odi_InvalidTurns, .func (PySem.W.fnOf "__init__" "InvalidTurns.__init__" (PySem.OwnI.iA ⟨20, 17, 20, 21⟩ ⟨20, 23, 20, 28⟩) (PySem.OwnI.iB ⟨21, 8, 21, 12⟩ ⟨21, 8, 21, 18⟩ ⟨21, 21, 21, 26⟩ ⟨21, 8, 21, 26⟩) PySem.OwnI.iS .none .none dci_InvalidTurns pmi_InvalidTurns ani_InvalidTurns cdi_InvalidTurns cti_InvalidTurns), sli_InvalidTurns⟩) (ci_InvalidTurns : PySem.W.codeIn K cdi_InvalidTurns "InvalidTurns.__init__" = true) (ss_InvalidTurns : PySem.W.subIn K (.ref c_InvalidTurns) (.ref c_InvalidTurns) = some true) (hn_cls : PySem.W.specialIn K (.builtin "object.__class__") "__get__" = some (some (.builtin "getset_descriptor.__get__"))) (ht_cls : PySem.W.takesIn K (.builtin "object.__class__") = some true) (sc_InvalidFraction : PySem.W.subIn K (.ref c_InvalidFraction) (.ref c_CamError) = some true) (sv_InvalidFraction : PySem.W.subIn K (.ref c_InvalidFraction) (.type "ValueError") = some true) (s_InvalidFraction_InvalidTurn : PySem.W.subIn K (.ref c_InvalidFraction) (.ref c_InvalidTurn) = some false) (s_InvalidFraction_InvalidWave : PySem.W.subIn K (.ref c_InvalidFraction) (.ref c_InvalidWave) = some false) (s_InvalidFraction_InvalidTurns : PySem.W.subIn K (.ref c_InvalidFraction) (.ref c_InvalidTurns) = some false) (sc_InvalidTurn : PySem.W.subIn K (.ref c_InvalidTurn) (.ref c_CamError) = some true) (sv_InvalidTurn : PySem.W.subIn K (.ref c_InvalidTurn) (.type "ValueError") = some true) (s_InvalidTurn_InvalidFraction : PySem.W.subIn K (.ref c_InvalidTurn) (.ref c_InvalidFraction) = some false) (s_InvalidTurn_InvalidWave : PySem.W.subIn K (.ref c_InvalidTurn) (.ref c_InvalidWave) = some false) (s_InvalidTurn_InvalidTurns : PySem.W.subIn K (.ref c_InvalidTurn) (.ref c_InvalidTurns) = some false) (sc_InvalidWave : PySem.W.subIn K (.ref c_InvalidWave) (.ref c_CamError) = some true) (sv_InvalidWave : PySem.W.subIn K (.ref c_InvalidWave) (.type "ValueError") = some true) (s_InvalidWave_InvalidFraction : PySem.W.subIn K (.ref c_InvalidWave) (.ref c_InvalidFraction) = some false) (s_InvalidWave_InvalidTurn : PySem.W.subIn K (.ref c_InvalidWave) (.ref c_InvalidTurn) = some false) (s_InvalidWave_InvalidTurns : PySem.W.subIn K (.ref c_InvalidWave) (.ref c_InvalidTurns) = some false) (sc_InvalidTurns : PySem.W.subIn K (.ref c_InvalidTurns) (.ref c_CamError) = some true) (sv_InvalidTurns : PySem.W.subIn K (.ref c_InvalidTurns) (.type "ValueError") = some true) (s_InvalidTurns_InvalidFraction : PySem.W.subIn K (.ref c_InvalidTurns) (.ref c_InvalidFraction) = some false) (s_InvalidTurns_InvalidTurn : PySem.W.subIn K (.ref c_InvalidTurns) (.ref c_InvalidTurn) = some false) (s_InvalidTurns_InvalidWave : PySem.W.subIn K (.ref c_InvalidTurns) (.ref c_InvalidWave) = some false) (ec_CamError : PySem.W.subIn K (.ref c_CamError) (.type "BaseException") = some true) (tc_CamError : PySem.W.typeIn K (.ref c_CamError) = some (.type "type")) (hd_CamError : PySem.W.hasDictIn K c_CamError = true) (z_abs : PySem.W.nsIn K mainGlobals "abs" = some none) (z_all : PySem.W.nsIn K mainGlobals "all" = some none) (z_bool : PySem.W.nsIn K mainGlobals "bool" = some none) (z_divmod : PySem.W.nsIn K mainGlobals "divmod" = some none) (z_enumerate : PySem.W.nsIn K mainGlobals "enumerate" = some none) (z_int : PySem.W.nsIn K mainGlobals "int" = some none) (z_isinstance : PySem.W.nsIn K mainGlobals "isinstance" = some none) (z_len : PySem.W.nsIn K mainGlobals "len" = some none) (z_list : PySem.W.nsIn K mainGlobals "list" = some none) (z_max : PySem.W.nsIn K mainGlobals "max" = some none) (z_min : PySem.W.nsIn K mainGlobals "min" = some none) (z_range : PySem.W.nsIn K mainGlobals "range" = some none) (z_repr : PySem.W.nsIn K mainGlobals "repr" = some none) (z_reversed : PySem.W.nsIn K mainGlobals "reversed" = some none) (z_sorted : PySem.W.nsIn K mainGlobals "sorted" = some none) (z_sum : PySem.W.nsIn K mainGlobals "sum" = some none) (z_tuple : PySem.W.nsIn K mainGlobals "tuple" = some none) (z_zip : PySem.W.nsIn K mainGlobals "zip" = some none) (g_comb : PySem.W.nsIn K mainGlobals "comb" = some (some (.builtin "math.comb"))) (g_combinations : PySem.W.nsIn K mainGlobals "combinations" = some (some (.type "itertools.combinations"))) (g_gcd : PySem.W.nsIn K mainGlobals "gcd" = some (some (.builtin "math.gcd"))) (g_lcm : PySem.W.nsIn K mainGlobals "lcm" = some (some (.builtin "math.lcm"))) (g_NOUGHT : PySem.W.nsIn K mainGlobals "NOUGHT" = some (some (.ref a_NOUGHT))) (d_NOUGHT : Vd.KD K (.ref a_NOUGHT) (.tuple [.int 0, .int 1])) (g_ONE : PySem.W.nsIn K mainGlobals "ONE" = some (some (.ref a_ONE))) (d_ONE : Vd.KD K (.ref a_ONE) (.tuple [.int 1, .int 1])) (g_PRIME : PySem.W.nsIn K mainGlobals "PRIME" = some (some (.int 2305843009213693951 t_PRIME))) (g_FIRST_MODULUS : PySem.W.nsIn K mainGlobals "FIRST_MODULUS" = some (some (.int 37 t_FIRST_MODULUS))) (g_EAST : PySem.W.nsIn K mainGlobals "EAST" = some (some (.ref a_EAST))) (d_EAST : Vd.KD K (.ref a_EAST) (.tuple [.tuple [.int 1, .int 1], .tuple [.int 0, .int 1]])) (g_WEST : PySem.W.nsIn K mainGlobals "WEST" = some (some (.ref a_WEST))) (d_WEST : Vd.KD K (.ref a_WEST) (.tuple [.tuple [.int (-1), .int 1], .tuple [.int 0, .int 1]])) (g_MOST_HARMONICS : PySem.W.nsIn K mainGlobals "MOST_HARMONICS" = some (some (.int 8 t_MOST_HARMONICS))) (g_BLANK : PySem.W.nsIn K mainGlobals "BLANK" = some (some (.ref a_BLANK))) (d_BLANK : Vd.KD K (.ref a_BLANK) (.tuple [.tuple [.int 0, .int 1], .tuple [.int 0, .int 1]])) (g_MIDDLE : PySem.W.nsIn K mainGlobals "MIDDLE" = some (some (.str (Str.ofString "middle") t_MIDDLE))) (g_HARMONIC : PySem.W.nsIn K mainGlobals "HARMONIC" = some (some (.str (Str.ofString "harmonic") t_HARMONIC))) (g_TURN : PySem.W.nsIn K mainGlobals "TURN" = some (some (.str (Str.ofString "turn") t_TURN))) (g_QUARTER_TURNS : PySem.W.nsIn K mainGlobals "QUARTER_TURNS" = some (some (.ref a_QUARTER_TURNS))) (d_QUARTER_TURNS : Vd.KD K (.ref a_QUARTER_TURNS) (.tuple [.tuple [.tuple [.int 1, .int 1], .tuple [.int 0, .int 1]], .tuple [.tuple [.int 0, .int 1], .tuple [.int 1, .int 1]], .tuple [.tuple [.int (-1), .int 1], .tuple [.int 0, .int 1]], .tuple [.tuple [.int 0, .int 1], .tuple [.int (-1), .int 1]]])) (tof : Vd.tabOf K = Vd.tabAt K f_in_order)
    : ∃ (fd : FuncData) (fg : Addr) (og : Obj) (fdg : FuncData), (∀ (s : Shared) (v : Value), BindsTo s fd ⟨[v], []⟩ [("_law_script", v)]) ∧ mg "in_order" = some (.ref fg) ∧ K.lookup fg = some og ∧ og.data = .func fdg ∧ Vd.tabOf K = Vd.tabAt K fg ∧ (∀ c, fdg.code = .ref c → ∃ oc, K.lookup c = some oc) ∧ ∀ (c Pt : Addr) (base : Heap), fdg.code = .ref c → Vd.tabOf K = some Pt → K.In base → base.Ns mainGlobals mg → LamX.TabB base mg c Pt → Sees l.prog base → FnG l.prog w K mg base 52 fa fd ["_law_script"] (spLaw K) := by
  have e := hfa.symm.trans (PySem.W.mg_of X G a_law)
  cases e
  have F_is_whole := fun_mk (st := s_is_whole) l_is_whole c_is_whole k_is_whole
  have F_is_fraction := fun_mk (st := s_is_fraction) l_is_fraction c_is_fraction k_is_fraction
  have F_is_fraction_pair := fun_mk (st := s_is_fraction_pair) l_is_fraction_pair c_is_fraction_pair k_is_fraction_pair
  have F_check_fraction := fun_mk (st := s_check_fraction) l_check_fraction c_check_fraction k_check_fraction
  have F_ratio := fun_mk (st := s_ratio) l_ratio c_ratio k_ratio
  have F_ratio_sum := fun_mk (st := s_ratio_sum) l_ratio_sum c_ratio_sum k_ratio_sum
  have F_ratio_product := fun_mk (st := s_ratio_product) l_ratio_product c_ratio_product k_ratio_product
  have F_ratio_negative := fun_mk (st := s_ratio_negative) l_ratio_negative c_ratio_negative k_ratio_negative
  have F_trimmed := fun_mk (st := s_trimmed) l_trimmed c_trimmed k_trimmed
  have F_scaled_worth := fun_mk (st := s_scaled_worth) l_scaled_worth c_scaled_worth k_scaled_worth
  have F_slope_of := fun_mk (st := s_slope_of) l_slope_of c_slope_of k_slope_of
  have F_primitive := fun_mk (st := s_primitive) l_primitive c_primitive k_primitive
  have F_quotient := fun_mk (st := s_quotient) l_quotient c_quotient k_quotient
  have F_digits_of := fun_mk (st := s_digits_of) l_digits_of c_digits_of k_digits_of
  have F_shared_factor := fun_mk (st := s_shared_factor) l_shared_factor c_shared_factor k_shared_factor
  have F_rest_by_prime := fun_mk (st := s_rest_by_prime) l_rest_by_prime c_rest_by_prime k_rest_by_prime
  have F_is_surely_single := fun_mk (st := s_is_surely_single) l_is_surely_single c_is_surely_single k_is_surely_single
  have F_single_factors := fun_mk (st := s_single_factors) l_single_factors c_single_factors k_single_factors
  have F_fraction_root := fun_mk (st := s_fraction_root) l_fraction_root c_fraction_root k_fraction_root
  have F_remainder_at := fun_mk (st := s_remainder_at) l_remainder_at c_remainder_at k_remainder_at
  have F_roots_by := fun_mk (st := s_roots_by) l_roots_by c_roots_by k_roots_by
  have F_has_clear_roots := fun_mk (st := s_has_clear_roots) l_has_clear_roots c_has_clear_roots k_has_clear_roots
  have F_lifted := fun_mk (st := s_lifted) l_lifted c_lifted k_lifted
  have F_is_turn := fun_mk (st := s_is_turn) l_is_turn c_is_turn k_is_turn
  have F_check_turn := fun_mk (st := s_check_turn) l_check_turn c_check_turn k_check_turn
  have F_check_turns := fun_mk (st := s_check_turns) l_check_turns c_check_turns k_check_turns
  have F_turn_of := fun_mk (st := s_turn_of) l_turn_of c_turn_of k_turn_of
  have F_join_turns := fun_mk (st := s_join_turns) l_join_turns c_join_turns k_join_turns
  have F_back := fun_mk (st := s_back) l_back c_back k_back
  have F_join_powers := fun_mk (st := s_join_powers) l_join_powers c_join_powers k_join_powers
  have F_turn_times := fun_mk (st := s_turn_times) l_turn_times c_turn_times k_turn_times
  have F_in_order := fun_mk (st := s_in_order) l_in_order c_in_order k_in_order
  have F_order_key := fun_mk (st := s_order_key) l_order_key c_order_key k_order_key
  have F_is_wave := fun_mk (st := s_is_wave) l_is_wave c_is_wave k_is_wave
  have F_check_wave := fun_mk (st := s_check_wave) l_check_wave c_check_wave k_check_wave
  have F_made_wave := fun_mk (st := s_made_wave) l_made_wave c_made_wave k_made_wave
  have F_pair_at := fun_mk (st := s_pair_at) l_pair_at c_pair_at k_pair_at
  have F_pair_product := fun_mk (st := s_pair_product) l_pair_product c_pair_product k_pair_product
  have F_mirrored := fun_mk (st := s_mirrored) l_mirrored c_mirrored k_mirrored
  have F_harmonics_of := fun_mk (st := s_harmonics_of) l_harmonics_of c_harmonics_of k_harmonics_of
  have F_common_size := fun_mk (st := s_common_size) l_common_size c_common_size k_common_size
  have F_whole_wave := fun_mk (st := s_whole_wave) l_whole_wave c_whole_wave k_whole_wave
  have F_half_row := fun_mk (st := s_half_row) l_half_row c_half_row k_half_row
  have F_quarter_rows := fun_mk (st := s_quarter_rows) l_quarter_rows c_quarter_rows k_quarter_rows
  have F_zero_turn := fun_mk (st := s_zero_turn) l_zero_turn c_zero_turn k_zero_turn
  have F_are_alike := fun_mk (st := s_are_alike) l_are_alike c_are_alike k_are_alike
  have F_are_mirror_alike := fun_mk (st := s_are_mirror_alike) l_are_mirror_alike c_are_mirror_alike k_are_mirror_alike
  have F_has_axis := fun_mk (st := s_has_axis) l_has_axis c_has_axis k_has_axis
  have F_fold := fun_mk (st := s_fold) l_fold c_fold k_fold
  have F_parting := fun_mk (st := s_parting) l_parting c_parting k_parting
  have F_length_square := fun_mk (st := s_length_square) l_length_square c_length_square k_length_square
  have F_steps_between := fun_mk (st := s_steps_between) l_steps_between c_steps_between k_steps_between
  have F_step_between := fun_mk (st := s_step_between) l_step_between c_step_between k_step_between
  have F_have_one_turn := fun_mk (st := s_have_one_turn) l_have_one_turn c_have_one_turn k_have_one_turn
  have F_carrying_turns := fun_mk (st := s_carrying_turns) l_carrying_turns c_carrying_turns k_carrying_turns
  have F_shared_step := fun_mk (st := s_shared_step) l_shared_step c_shared_step k_shared_step
  have F_turns_with_power := fun_mk (st := s_turns_with_power) l_turns_with_power c_turns_with_power k_turns_with_power
  have F_l_tap := fun_mk (st := s_l_tap) l_l_tap c_l_tap k_l_tap
  have F_l_dip := fun_mk (st := s_l_dip) l_l_dip c_l_dip k_l_dip
  have F_l_of := fun_mk (st := s_l_of) l_l_of c_l_of k_l_of
  have F_l_gcd := fun_mk (st := s_l_gcd) l_l_gcd c_l_gcd k_l_gcd
  have F_l_ratio := fun_mk (st := s_l_ratio) l_l_ratio c_l_ratio k_l_ratio
  have F_l_div := fun_mk (st := s_l_div) l_l_div c_l_div k_l_div
  have F_l_opp := fun_mk (st := s_l_opp) l_l_opp c_l_opp k_l_opp
  have F_l_dot := fun_mk (st := s_l_dot) l_l_dot c_l_dot k_l_dot
  have F_l_cross := fun_mk (st := s_l_cross) l_l_cross c_l_cross k_l_cross
  have F_l_back := fun_mk (st := s_l_back) l_l_back c_l_back k_l_back
  have F_l_climb := fun_mk (st := s_l_climb) l_l_climb c_l_climb k_l_climb
  have F_l_angle := fun_mk (st := s_l_angle) l_l_angle c_l_angle k_l_angle
  have F_l_turn := fun_mk (st := s_l_turn) l_l_turn c_l_turn k_l_turn
  have F_l_bit := fun_mk (st := s_l_bit) l_l_bit c_l_bit k_l_bit
  have F_l_trim := fun_mk (st := s_l_trim) l_l_trim c_l_trim k_l_trim
  have F_l_turned := fun_mk (st := s_l_turned) l_l_turned c_l_turned k_l_turned
  have F_l_mirror := fun_mk (st := s_l_mirror) l_l_mirror c_l_mirror k_l_mirror
  have F_l_plain := fun_mk (st := s_l_plain) l_l_plain c_l_plain k_l_plain
  have F_l_numbers := fun_mk (st := s_l_numbers) l_l_numbers c_l_numbers k_l_numbers
  have F_l_shared := fun_mk (st := s_l_shared) l_l_shared c_l_shared k_l_shared
  have F_l_joint := fun_mk (st := s_l_joint) l_l_joint c_l_joint k_l_joint
  have F_l_settled := fun_mk (st := s_l_settled) l_l_settled c_l_settled k_l_settled
  have F_l_are_alike := fun_mk (st := s_l_are_alike) l_l_are_alike c_l_are_alike k_l_are_alike
  have F_l_spun := fun_mk (st := s_l_spun) l_l_spun c_l_spun k_l_spun
  have F_l_stepped := fun_mk (st := s_l_stepped) l_l_stepped c_l_stepped k_l_stepped
  have F_l_common := fun_mk (st := s_l_common) l_l_common c_l_common k_l_common
  have F_l_unit := fun_mk (st := s_l_unit) l_l_unit c_l_unit k_l_unit
  have F_l_drawn := fun_mk (st := s_l_drawn) l_l_drawn c_l_drawn k_l_drawn
  have F_l_right := fun_mk (st := s_l_right) l_l_right c_l_right k_l_right
  have F_law := fun_mk (st := s_law) l_law c_law k_law
  let T : Tx K mg := {
    f_is_whole := f_is_whole, fd_is_whole := _, F_is_whole := F_is_whole, m_is_whole := PySem.W.mg_of X G a_is_whole, b_is_whole := (F_is_whole.binds (ps := ["value"]) fun _ _ _ _ _ _ us hl => match us, hl with | [_], _ => rfl),
    f_is_fraction := f_is_fraction, fd_is_fraction := _, F_is_fraction := F_is_fraction, m_is_fraction := PySem.W.mg_of X G a_is_fraction, b_is_fraction := (F_is_fraction.binds (ps := ["value"]) fun _ _ _ _ _ _ us hl => match us, hl with | [_], _ => rfl),
    f_is_fraction_pair := f_is_fraction_pair, fd_is_fraction_pair := _, F_is_fraction_pair := F_is_fraction_pair, m_is_fraction_pair := PySem.W.mg_of X G a_is_fraction_pair, b_is_fraction_pair := (F_is_fraction_pair.binds (ps := ["value"]) fun _ _ _ _ _ _ us hl => match us, hl with | [_], _ => rfl),
    f_check_fraction := f_check_fraction, fd_check_fraction := _, F_check_fraction := F_check_fraction, m_check_fraction := PySem.W.mg_of X G a_check_fraction, b_check_fraction := (F_check_fraction.binds (ps := ["fraction"]) fun _ _ _ _ _ _ us hl => match us, hl with | [_], _ => rfl),
    f_ratio := f_ratio, fd_ratio := _, F_ratio := F_ratio, m_ratio := PySem.W.mg_of X G a_ratio, b_ratio := (F_ratio.binds (ps := ["n", "m"]) fun _ _ _ _ _ _ us hl => match us, hl with | [_, _], _ => rfl),
    f_ratio_sum := f_ratio_sum, fd_ratio_sum := _, F_ratio_sum := F_ratio_sum, m_ratio_sum := PySem.W.mg_of X G a_ratio_sum, b_ratio_sum := (F_ratio_sum.binds (ps := ["one", "other"]) fun _ _ _ _ _ _ us hl => match us, hl with | [_, _], _ => rfl),
    f_ratio_product := f_ratio_product, fd_ratio_product := _, F_ratio_product := F_ratio_product, m_ratio_product := PySem.W.mg_of X G a_ratio_product, b_ratio_product := (F_ratio_product.binds (ps := ["one", "other"]) fun _ _ _ _ _ _ us hl => match us, hl with | [_, _], _ => rfl),
    f_ratio_negative := f_ratio_negative, fd_ratio_negative := _, F_ratio_negative := F_ratio_negative, m_ratio_negative := PySem.W.mg_of X G a_ratio_negative, b_ratio_negative := (F_ratio_negative.binds (ps := ["fraction"]) fun _ _ _ _ _ _ us hl => match us, hl with | [_], _ => rfl),
    f_trimmed := f_trimmed, fd_trimmed := _, F_trimmed := F_trimmed, m_trimmed := PySem.W.mg_of X G a_trimmed, b_trimmed := (F_trimmed.binds (ps := ["row"]) fun _ _ _ _ _ _ us hl => match us, hl with | [_], _ => rfl),
    f_scaled_worth := f_scaled_worth, fd_scaled_worth := _, F_scaled_worth := F_scaled_worth, m_scaled_worth := PySem.W.mg_of X G a_scaled_worth, b_scaled_worth := (F_scaled_worth.binds (ps := ["row", "n", "m"]) fun _ _ _ _ _ _ us hl => match us, hl with | [_, _, _], _ => rfl),
    f_slope_of := f_slope_of, fd_slope_of := _, F_slope_of := F_slope_of, m_slope_of := PySem.W.mg_of X G a_slope_of, b_slope_of := (F_slope_of.binds (ps := ["row"]) fun _ _ _ _ _ _ us hl => match us, hl with | [_], _ => rfl),
    f_primitive := f_primitive, fd_primitive := _, F_primitive := F_primitive, m_primitive := PySem.W.mg_of X G a_primitive, b_primitive := (F_primitive.binds (ps := ["row"]) fun _ _ _ _ _ _ us hl => match us, hl with | [_], _ => rfl),
    f_quotient := f_quotient, fd_quotient := _, F_quotient := F_quotient, m_quotient := PySem.W.mg_of X G a_quotient, b_quotient := (F_quotient.binds (ps := ["row", "by"]) fun _ _ _ _ _ _ us hl => match us, hl with | [_, _], _ => rfl),
    f_digits_of := f_digits_of, fd_digits_of := _, F_digits_of := F_digits_of, m_digits_of := PySem.W.mg_of X G a_digits_of, b_digits_of := (F_digits_of.binds (ps := ["number", "base"]) fun _ _ _ _ _ _ us hl => match us, hl with | [_, _], _ => rfl),
    f_shared_factor := f_shared_factor, fd_shared_factor := _, F_shared_factor := F_shared_factor, m_shared_factor := PySem.W.mg_of X G a_shared_factor, b_shared_factor := (F_shared_factor.binds (ps := ["one", "other"]) fun _ _ _ _ _ _ us hl => match us, hl with | [_, _], _ => rfl),
    f_rest_by_prime := f_rest_by_prime, fd_rest_by_prime := _, F_rest_by_prime := F_rest_by_prime, m_rest_by_prime := PySem.W.mg_of X G a_rest_by_prime, b_rest_by_prime := (F_rest_by_prime.binds (ps := ["one", "other"]) fun _ _ _ _ _ _ us hl => match us, hl with | [_, _], _ => rfl),
    f_is_surely_single := f_is_surely_single, fd_is_surely_single := _, F_is_surely_single := F_is_surely_single, m_is_surely_single := PySem.W.mg_of X G a_is_surely_single, b_is_surely_single := (F_is_surely_single.binds (ps := ["row"]) fun _ _ _ _ _ _ us hl => match us, hl with | [_], _ => rfl),
    f_single_factors := f_single_factors, fd_single_factors := _, F_single_factors := F_single_factors, m_single_factors := PySem.W.mg_of X G a_single_factors, b_single_factors := (F_single_factors.binds (ps := ["row"]) fun _ _ _ _ _ _ us hl => match us, hl with | [_], _ => rfl),
    f_fraction_root := f_fraction_root, fd_fraction_root := _, F_fraction_root := F_fraction_root, m_fraction_root := PySem.W.mg_of X G a_fraction_root, b_fraction_root := (F_fraction_root.binds (ps := ["row"]) fun _ _ _ _ _ _ us hl => match us, hl with | [_], _ => rfl),
    f_remainder_at := f_remainder_at, fd_remainder_at := _, F_remainder_at := F_remainder_at, m_remainder_at := PySem.W.mg_of X G a_remainder_at, b_remainder_at := (F_remainder_at.binds (ps := ["row", "place", "modulus"]) fun _ _ _ _ _ _ us hl => match us, hl with | [_, _, _], _ => rfl),
    f_roots_by := f_roots_by, fd_roots_by := _, F_roots_by := F_roots_by, m_roots_by := PySem.W.mg_of X G a_roots_by, b_roots_by := (F_roots_by.binds (ps := ["row", "modulus"]) fun _ _ _ _ _ _ us hl => match us, hl with | [_, _], _ => rfl),
    f_has_clear_roots := f_has_clear_roots, fd_has_clear_roots := _, F_has_clear_roots := F_has_clear_roots, m_has_clear_roots := PySem.W.mg_of X G a_has_clear_roots, b_has_clear_roots := (F_has_clear_roots.binds (ps := ["row", "slope", "modulus"]) fun _ _ _ _ _ _ us hl => match us, hl with | [_, _, _], _ => rfl),
    f_lifted := f_lifted, fd_lifted := _, F_lifted := F_lifted, m_lifted := PySem.W.mg_of X G a_lifted, b_lifted := (F_lifted.binds (ps := ["row", "slope", "root", "modulus", "bound", "last"]) fun _ _ _ _ _ _ us hl => match us, hl with | [_, _, _, _, _, _], _ => rfl),
    f_is_turn := f_is_turn, fd_is_turn := _, F_is_turn := F_is_turn, m_is_turn := PySem.W.mg_of X G a_is_turn, b_is_turn := (F_is_turn.binds (ps := ["value"]) fun _ _ _ _ _ _ us hl => match us, hl with | [_], _ => rfl),
    f_check_turn := f_check_turn, fd_check_turn := _, F_check_turn := F_check_turn, m_check_turn := PySem.W.mg_of X G a_check_turn, b_check_turn := (F_check_turn.binds (ps := ["turn"]) fun _ _ _ _ _ _ us hl => match us, hl with | [_], _ => rfl),
    f_check_turns := f_check_turns, fd_check_turns := _, F_check_turns := F_check_turns, m_check_turns := PySem.W.mg_of X G a_check_turns, b_check_turns := (F_check_turns.binds (ps := ["turns"]) fun _ _ _ _ _ _ us hl => match us, hl with | [_], _ => rfl),
    f_turn_of := f_turn_of, fd_turn_of := _, F_turn_of := F_turn_of, m_turn_of := PySem.W.mg_of X G a_turn_of, b_turn_of := (F_turn_of.binds (ps := ["fraction"]) fun _ _ _ _ _ _ us hl => match us, hl with | [_], _ => rfl),
    f_join_turns := f_join_turns, fd_join_turns := _, F_join_turns := F_join_turns, m_join_turns := PySem.W.mg_of X G a_join_turns, b_join_turns := (F_join_turns.binds (ps := ["turn", "other"]) fun _ _ _ _ _ _ us hl => match us, hl with | [_, _], _ => rfl),
    f_back := f_back, fd_back := _, F_back := F_back, m_back := PySem.W.mg_of X G a_back, b_back := (F_back.binds (ps := ["turn"]) fun _ _ _ _ _ _ us hl => match us, hl with | [_], _ => rfl),
    f_join_powers := f_join_powers, fd_join_powers := _, F_join_powers := F_join_powers, m_join_powers := PySem.W.mg_of X G a_join_powers, b_join_powers := (F_join_powers.binds (ps := ["turn", "other"]) fun _ _ _ _ _ _ us hl => match us, hl with | [_, _], _ => rfl),
    f_turn_times := f_turn_times, fd_turn_times := _, F_turn_times := F_turn_times, m_turn_times := PySem.W.mg_of X G a_turn_times, b_turn_times := (F_turn_times.binds (ps := ["turn", "times"]) fun _ _ _ _ _ _ us hl => match us, hl with | [_, _], _ => rfl),
    f_in_order := f_in_order, fd_in_order := _, F_in_order := F_in_order, m_in_order := PySem.W.mg_of X G a_in_order, b_in_order := (F_in_order.binds (ps := ["turns"]) fun _ _ _ _ _ _ us hl => match us, hl with | [_], _ => rfl),
    f_order_key := f_order_key, fd_order_key := _, F_order_key := F_order_key, m_order_key := PySem.W.mg_of X G a_order_key, b_order_key := (F_order_key.binds (ps := ["turn", "shared"]) fun _ _ _ _ _ _ us hl => match us, hl with | [_, _], _ => rfl),
    f_is_wave := f_is_wave, fd_is_wave := _, F_is_wave := F_is_wave, m_is_wave := PySem.W.mg_of X G a_is_wave, b_is_wave := (F_is_wave.binds (ps := ["value"]) fun _ _ _ _ _ _ us hl => match us, hl with | [_], _ => rfl),
    f_check_wave := f_check_wave, fd_check_wave := _, F_check_wave := F_check_wave, m_check_wave := PySem.W.mg_of X G a_check_wave, b_check_wave := (F_check_wave.binds (ps := ["wave"]) fun _ _ _ _ _ _ us hl => match us, hl with | [_], _ => rfl),
    f_made_wave := f_made_wave, fd_made_wave := _, F_made_wave := F_made_wave, m_made_wave := PySem.W.mg_of X G a_made_wave, b_made_wave := (F_made_wave.binds (ps := ["first", "pairs"]) fun _ _ _ _ _ _ us hl => match us, hl with | [_, _], _ => rfl),
    f_pair_at := f_pair_at, fd_pair_at := _, F_pair_at := F_pair_at, m_pair_at := PySem.W.mg_of X G a_pair_at, b_pair_at := (F_pair_at.binds (ps := ["wave", "number"]) fun _ _ _ _ _ _ us hl => match us, hl with | [_, _], _ => rfl),
    f_pair_product := f_pair_product, fd_pair_product := _, F_pair_product := F_pair_product, m_pair_product := PySem.W.mg_of X G a_pair_product, b_pair_product := (F_pair_product.binds (ps := ["one", "other"]) fun _ _ _ _ _ _ us hl => match us, hl with | [_, _], _ => rfl),
    f_mirrored := f_mirrored, fd_mirrored := _, F_mirrored := F_mirrored, m_mirrored := PySem.W.mg_of X G a_mirrored, b_mirrored := (F_mirrored.binds (ps := ["wave"]) fun _ _ _ _ _ _ us hl => match us, hl with | [_], _ => rfl),
    f_harmonics_of := f_harmonics_of, fd_harmonics_of := _, F_harmonics_of := F_harmonics_of, m_harmonics_of := PySem.W.mg_of X G a_harmonics_of, b_harmonics_of := (F_harmonics_of.binds (ps := ["wave"]) fun _ _ _ _ _ _ us hl => match us, hl with | [_], _ => rfl),
    f_common_size := f_common_size, fd_common_size := _, F_common_size := F_common_size, m_common_size := PySem.W.mg_of X G a_common_size, b_common_size := (F_common_size.binds (ps := ["waves"]) fun _ _ _ _ _ _ us hl => match us, hl with | [_], _ => rfl),
    f_whole_wave := f_whole_wave, fd_whole_wave := _, F_whole_wave := F_whole_wave, m_whole_wave := PySem.W.mg_of X G a_whole_wave, b_whole_wave := (F_whole_wave.binds (ps := ["wave", "size"]) fun _ _ _ _ _ _ us hl => match us, hl with | [_, _], _ => rfl),
    f_half_row := f_half_row, fd_half_row := _, F_half_row := F_half_row, m_half_row := PySem.W.mg_of X G a_half_row, b_half_row := (F_half_row.binds (ps := ["whole", "quarter"]) fun _ _ _ _ _ _ us hl => match us, hl with | [_, _], _ => rfl),
    f_quarter_rows := f_quarter_rows, fd_quarter_rows := _, F_quarter_rows := F_quarter_rows, m_quarter_rows := PySem.W.mg_of X G a_quarter_rows, b_quarter_rows := (F_quarter_rows.binds (ps := ["wave"]) fun _ _ _ _ _ _ us hl => match us, hl with | [_], _ => rfl),
    f_zero_turn := f_zero_turn, fd_zero_turn := _, F_zero_turn := F_zero_turn, m_zero_turn := PySem.W.mg_of X G a_zero_turn, b_zero_turn := (F_zero_turn.binds (ps := ["wave"]) fun _ _ _ _ _ _ us hl => match us, hl with | [_], _ => rfl),
    f_are_alike := f_are_alike, fd_are_alike := _, F_are_alike := F_are_alike, m_are_alike := PySem.W.mg_of X G a_are_alike, b_are_alike := (F_are_alike.binds (ps := ["wave", "other"]) fun _ _ _ _ _ _ us hl => match us, hl with | [_, _], _ => rfl),
    f_are_mirror_alike := f_are_mirror_alike, fd_are_mirror_alike := _, F_are_mirror_alike := F_are_mirror_alike, m_are_mirror_alike := PySem.W.mg_of X G a_are_mirror_alike, b_are_mirror_alike := (F_are_mirror_alike.binds (ps := ["wave", "other"]) fun _ _ _ _ _ _ us hl => match us, hl with | [_, _], _ => rfl),
    f_has_axis := f_has_axis, fd_has_axis := _, F_has_axis := F_has_axis, m_has_axis := PySem.W.mg_of X G a_has_axis, b_has_axis := (F_has_axis.binds (ps := ["wave"]) fun _ _ _ _ _ _ us hl => match us, hl with | [_], _ => rfl),
    f_fold := f_fold, fd_fold := _, F_fold := F_fold, m_fold := PySem.W.mg_of X G a_fold, b_fold := (F_fold.binds (ps := ["wave"]) fun _ _ _ _ _ _ us hl => match us, hl with | [_], _ => rfl),
    f_parting := f_parting, fd_parting := _, F_parting := F_parting, m_parting := PySem.W.mg_of X G a_parting, b_parting := (F_parting.binds (ps := ["wave", "other"]) fun _ _ _ _ _ _ us hl => match us, hl with | [_, _], _ => rfl),
    f_length_square := f_length_square, fd_length_square := _, F_length_square := F_length_square, m_length_square := PySem.W.mg_of X G a_length_square, b_length_square := (F_length_square.binds (ps := ["pair"]) fun _ _ _ _ _ _ us hl => match us, hl with | [_], _ => rfl),
    f_steps_between := f_steps_between, fd_steps_between := _, F_steps_between := F_steps_between, m_steps_between := PySem.W.mg_of X G a_steps_between, b_steps_between := (F_steps_between.binds (ps := ["wave", "other"]) fun _ _ _ _ _ _ us hl => match us, hl with | [_, _], _ => rfl),
    f_step_between := f_step_between, fd_step_between := _, F_step_between := F_step_between, m_step_between := PySem.W.mg_of X G a_step_between, b_step_between := (F_step_between.binds (ps := ["pair", "other"]) fun _ _ _ _ _ _ us hl => match us, hl with | [_, _], _ => rfl),
    f_have_one_turn := f_have_one_turn, fd_have_one_turn := _, F_have_one_turn := F_have_one_turn, m_have_one_turn := PySem.W.mg_of X G a_have_one_turn, b_have_one_turn := (F_have_one_turn.binds (ps := ["one", "two"]) fun _ _ _ _ _ _ us hl => match us, hl with | [_, _], _ => rfl),
    f_carrying_turns := f_carrying_turns, fd_carrying_turns := _, F_carrying_turns := F_carrying_turns, m_carrying_turns := PySem.W.mg_of X G a_carrying_turns, b_carrying_turns := (F_carrying_turns.binds (ps := ["wave", "other"]) fun _ _ _ _ _ _ us hl => match us, hl with | [_, _], _ => rfl),
    f_shared_step := f_shared_step, fd_shared_step := _, F_shared_step := F_shared_step, m_shared_step := PySem.W.mg_of X G a_shared_step, b_shared_step := (F_shared_step.binds (ps := ["one", "two"]) fun _ _ _ _ _ _ us hl => match us, hl with | [_, _], _ => rfl),
    f_turns_with_power := f_turns_with_power, fd_turns_with_power := _, F_turns_with_power := F_turns_with_power, m_turns_with_power := PySem.W.mg_of X G a_turns_with_power, b_turns_with_power := (F_turns_with_power.binds (ps := ["power", "number"]) fun _ _ _ _ _ _ us hl => match us, hl with | [_, _], _ => rfl),
    f_l_tap := f_l_tap, fd_l_tap := _, F_l_tap := F_l_tap, m_l_tap := PySem.W.mg_of X G a_l_tap, b_l_tap := (F_l_tap.binds (ps := ["_law_script", "_law_lap"]) fun _ _ _ _ _ _ us hl => match us, hl with | [_, _], _ => rfl),
    f_l_dip := f_l_dip, fd_l_dip := _, F_l_dip := F_l_dip, m_l_dip := PySem.W.mg_of X G a_l_dip, b_l_dip := (F_l_dip.binds (ps := ["_law_tap_here", "_law_size"]) fun _ _ _ _ _ _ us hl => match us, hl with | [_, _], _ => rfl),
    f_l_of := f_l_of, fd_l_of := _, F_l_of := F_l_of, m_l_of := PySem.W.mg_of X G a_l_of, b_l_of := (F_l_of.binds (ps := ["_law_tap_here", "_law_some"]) fun _ _ _ _ _ _ us hl => match us, hl with | [_, _], _ => rfl),
    f_l_gcd := f_l_gcd, fd_l_gcd := _, F_l_gcd := F_l_gcd, m_l_gcd := PySem.W.mg_of X G a_l_gcd, b_l_gcd := (F_l_gcd.binds (ps := ["_law_one", "_law_two"]) fun _ _ _ _ _ _ us hl => match us, hl with | [_, _], _ => rfl),
    f_l_ratio := f_l_ratio, fd_l_ratio := _, F_l_ratio := F_l_ratio, m_l_ratio := PySem.W.mg_of X G a_l_ratio, b_l_ratio := (F_l_ratio.binds (ps := ["_law_up", "_law_under"]) fun _ _ _ _ _ _ us hl => match us, hl with | [_, _], _ => rfl),
    f_l_div := f_l_div, fd_l_div := _, F_l_div := F_l_div, m_l_div := PySem.W.mg_of X G a_l_div, b_l_div := (F_l_div.binds (ps := ["_law_one", "_law_two"]) fun _ _ _ _ _ _ us hl => match us, hl with | [_, _], _ => rfl),
    f_l_opp := f_l_opp, fd_l_opp := _, F_l_opp := F_l_opp, m_l_opp := PySem.W.mg_of X G a_l_opp, b_l_opp := (F_l_opp.binds (ps := ["_law_one"]) fun _ _ _ _ _ _ us hl => match us, hl with | [_], _ => rfl),
    f_l_dot := f_l_dot, fd_l_dot := _, F_l_dot := F_l_dot, m_l_dot := PySem.W.mg_of X G a_l_dot, b_l_dot := (F_l_dot.binds (ps := ["_law_ones", "_law_twos"]) fun _ _ _ _ _ _ us hl => match us, hl with | [_, _], _ => rfl),
    f_l_cross := f_l_cross, fd_l_cross := _, F_l_cross := F_l_cross, m_l_cross := PySem.W.mg_of X G a_l_cross, b_l_cross := (F_l_cross.binds (ps := ["_law_one", "_law_two"]) fun _ _ _ _ _ _ us hl => match us, hl with | [_, _], _ => rfl),
    f_l_back := f_l_back, fd_l_back := _, F_l_back := F_l_back, m_l_back := PySem.W.mg_of X G a_l_back, b_l_back := (F_l_back.binds (ps := ["_law_turn_here"]) fun _ _ _ _ _ _ us hl => match us, hl with | [_], _ => rfl),
    f_l_climb := f_l_climb, fd_l_climb := _, F_l_climb := F_l_climb, m_l_climb := PySem.W.mg_of X G a_l_climb, b_l_climb := (F_l_climb.binds (ps := ["_law_turn_here", "_law_times"]) fun _ _ _ _ _ _ us hl => match us, hl with | [_, _], _ => rfl),
    f_l_angle := f_l_angle, fd_l_angle := _, F_l_angle := F_l_angle, m_l_angle := PySem.W.mg_of X G a_l_angle, b_l_angle := (F_l_angle.binds (ps := ["_law_half"]) fun _ _ _ _ _ _ us hl => match us, hl with | [_], _ => rfl),
    f_l_turn := f_l_turn, fd_l_turn := _, F_l_turn := F_l_turn, m_l_turn := PySem.W.mg_of X G a_l_turn, b_l_turn := (F_l_turn.binds (ps := ["_law_tap_here"]) fun _ _ _ _ _ _ us hl => match us, hl with | [_], _ => rfl),
    f_l_bit := f_l_bit, fd_l_bit := _, F_l_bit := F_l_bit, m_l_bit := PySem.W.mg_of X G a_l_bit, b_l_bit := (F_l_bit.binds (ps := ["_law_tap_here"]) fun _ _ _ _ _ _ us hl => match us, hl with | [_], _ => rfl),
    f_l_trim := f_l_trim, fd_l_trim := _, F_l_trim := F_l_trim, m_l_trim := PySem.W.mg_of X G a_l_trim, b_l_trim := (F_l_trim.binds (ps := ["_law_lift", "_law_pairs"]) fun _ _ _ _ _ _ us hl => match us, hl with | [_, _], _ => rfl),
    f_l_turned := f_l_turned, fd_l_turned := _, F_l_turned := F_l_turned, m_l_turned := PySem.W.mg_of X G a_l_turned, b_l_turned := (F_l_turned.binds (ps := ["_law_wave", "_law_turn_here"]) fun _ _ _ _ _ _ us hl => match us, hl with | [_, _], _ => rfl),
    f_l_mirror := f_l_mirror, fd_l_mirror := _, F_l_mirror := F_l_mirror, m_l_mirror := PySem.W.mg_of X G a_l_mirror, b_l_mirror := (F_l_mirror.binds (ps := ["_law_wave"]) fun _ _ _ _ _ _ us hl => match us, hl with | [_], _ => rfl),
    f_l_plain := f_l_plain, fd_l_plain := _, F_l_plain := F_l_plain, m_l_plain := PySem.W.mg_of X G a_l_plain, b_l_plain := (F_l_plain.binds (ps := ["_law_tap_here"]) fun _ _ _ _ _ _ us hl => match us, hl with | [_], _ => rfl),
    f_l_numbers := f_l_numbers, fd_l_numbers := _, F_l_numbers := F_l_numbers, m_l_numbers := PySem.W.mg_of X G a_l_numbers, b_l_numbers := (F_l_numbers.binds (ps := ["_law_wave"]) fun _ _ _ _ _ _ us hl => match us, hl with | [_], _ => rfl),
    f_l_shared := f_l_shared, fd_l_shared := _, F_l_shared := F_l_shared, m_l_shared := PySem.W.mg_of X G a_l_shared, b_l_shared := (F_l_shared.binds (ps := ["_law_one", "_law_two"]) fun _ _ _ _ _ _ us hl => match us, hl with | [_, _], _ => rfl),
    f_l_joint := f_l_joint, fd_l_joint := _, F_l_joint := F_l_joint, m_l_joint := PySem.W.mg_of X G a_l_joint, b_l_joint := (F_l_joint.binds (ps := ["_law_one", "_law_two"]) fun _ _ _ _ _ _ us hl => match us, hl with | [_, _], _ => rfl),
    f_l_settled := f_l_settled, fd_l_settled := _, F_l_settled := F_l_settled, m_l_settled := PySem.W.mg_of X G a_l_settled, b_l_settled := (F_l_settled.binds (ps := ["_law_one", "_law_two"]) fun _ _ _ _ _ _ us hl => match us, hl with | [_, _], _ => rfl),
    f_l_are_alike := f_l_are_alike, fd_l_are_alike := _, F_l_are_alike := F_l_are_alike, m_l_are_alike := PySem.W.mg_of X G a_l_are_alike, b_l_are_alike := (F_l_are_alike.binds (ps := ["_law_one", "_law_two"]) fun _ _ _ _ _ _ us hl => match us, hl with | [_, _], _ => rfl),
    f_l_spun := f_l_spun, fd_l_spun := _, F_l_spun := F_l_spun, m_l_spun := PySem.W.mg_of X G a_l_spun, b_l_spun := (F_l_spun.binds (ps := ["_law_wave", "_law_g", "_law_s"]) fun _ _ _ _ _ _ us hl => match us, hl with | [_, _, _], _ => rfl),
    f_l_stepped := f_l_stepped, fd_l_stepped := _, F_l_stepped := F_l_stepped, m_l_stepped := PySem.W.mg_of X G a_l_stepped, b_l_stepped := (F_l_stepped.binds (ps := ["_law_tap_here", "_law_most"]) fun _ _ _ _ _ _ us hl => match us, hl with | [_, _], _ => rfl),
    f_l_common := f_l_common, fd_l_common := _, F_l_common := F_l_common, m_l_common := PySem.W.mg_of X G a_l_common, b_l_common := (F_l_common.binds (ps := ["_law_wave"]) fun _ _ _ _ _ _ us hl => match us, hl with | [_], _ => rfl),
    f_l_unit := f_l_unit, fd_l_unit := _, F_l_unit := F_l_unit, m_l_unit := PySem.W.mg_of X G a_l_unit, b_l_unit := (F_l_unit.binds (ps := ["_law_k", "_law_e", "_law_f"]) fun _ _ _ _ _ _ us hl => match us, hl with | [_, _, _], _ => rfl),
    f_l_drawn := f_l_drawn, fd_l_drawn := _, F_l_drawn := F_l_drawn, m_l_drawn := PySem.W.mg_of X G a_l_drawn, b_l_drawn := (F_l_drawn.binds (ps := ["_law_tap_here"]) fun _ _ _ _ _ _ us hl => match us, hl with | [_], _ => rfl),
    f_l_right := f_l_right, fd_l_right := _, F_l_right := F_l_right, m_l_right := PySem.W.mg_of X G a_l_right, b_l_right := (F_l_right.binds (ps := ["_law_tap_here"]) fun _ _ _ _ _ _ us hl => match us, hl with | [_], _ => rfl),
    f_law := fa, fd_law := _, F_law := F_law, m_law := PySem.W.mg_of X G a_law, b_law := (F_law.binds (ps := ["_law_script"]) fun _ _ _ _ _ _ us hl => match us, hl with | [_], _ => rfl),
    kb_fold_wave := kb_fold_wave F_fold,
    kb_has_axis_wave := kb_has_axis_wave F_has_axis,
    c_CamError := c_CamError,
    gc_CamError := PySem.W.mg_of X G ac_CamError,
    c_InvalidFraction := c_InvalidFraction,
    i_InvalidFraction := i_InvalidFraction,
    x_InvalidFraction := { gC := PySem.W.mg_of X G ac_InvalidFraction, cls := ⟨nm_InvalidFraction, q_InvalidFraction, N_InvalidFraction, bs_InvalidFraction, _, sn_InvalidFraction, sub_InvalidFraction, ab_InvalidFraction, col_InvalidFraction, dd_InvalidFraction, m0_InvalidFraction, m1_InvalidFraction, m2_InvalidFraction, m3_InvalidFraction, m5_InvalidFraction, xL_InvalidFraction, rfl⟩, sa := sa_InvalidFraction, ga := ga_InvalidFraction, gg := gg_InvalidFraction, noN := nb_InvalidFraction, iC := ai_InvalidFraction, tC := ti_InvalidFraction, kC := kc_InvalidFraction, exC := ec_InvalidFraction, tyC := tc_InvalidFraction, hdC := hd_InvalidFraction, te := PySem.W.exm_ref ec_InvalidFraction hd_InvalidFraction tc_InvalidFraction ss_InvalidFraction, fn := ⟨_, _, _, _, _, _, _, _, _, _, _, _, _, _, li_InvalidFraction, ci_InvalidFraction⟩ },
    e_InvalidFraction := ⟨ga_InvalidFraction, gg_InvalidFraction, ec_InvalidFraction, hd_InvalidFraction, cl_InvalidFraction, hn_cls, ht_cls, mo_InvalidFraction⟩,
    c_InvalidTurn := c_InvalidTurn,
    i_InvalidTurn := i_InvalidTurn,
    x_InvalidTurn := { gC := PySem.W.mg_of X G ac_InvalidTurn, cls := ⟨nm_InvalidTurn, q_InvalidTurn, N_InvalidTurn, bs_InvalidTurn, _, sn_InvalidTurn, sub_InvalidTurn, ab_InvalidTurn, col_InvalidTurn, dd_InvalidTurn, m0_InvalidTurn, m1_InvalidTurn, m2_InvalidTurn, m3_InvalidTurn, m5_InvalidTurn, xL_InvalidTurn, rfl⟩, sa := sa_InvalidTurn, ga := ga_InvalidTurn, gg := gg_InvalidTurn, noN := nb_InvalidTurn, iC := ai_InvalidTurn, tC := ti_InvalidTurn, kC := kc_InvalidTurn, exC := ec_InvalidTurn, tyC := tc_InvalidTurn, hdC := hd_InvalidTurn, te := PySem.W.exm_ref ec_InvalidTurn hd_InvalidTurn tc_InvalidTurn ss_InvalidTurn, fn := ⟨_, _, _, _, _, _, _, _, _, _, _, _, _, _, li_InvalidTurn, ci_InvalidTurn⟩ },
    e_InvalidTurn := ⟨ga_InvalidTurn, gg_InvalidTurn, ec_InvalidTurn, hd_InvalidTurn, cl_InvalidTurn, hn_cls, ht_cls, mo_InvalidTurn⟩,
    c_InvalidWave := c_InvalidWave,
    i_InvalidWave := i_InvalidWave,
    x_InvalidWave := { gC := PySem.W.mg_of X G ac_InvalidWave, cls := ⟨nm_InvalidWave, q_InvalidWave, N_InvalidWave, bs_InvalidWave, _, sn_InvalidWave, sub_InvalidWave, ab_InvalidWave, col_InvalidWave, dd_InvalidWave, m0_InvalidWave, m1_InvalidWave, m2_InvalidWave, m3_InvalidWave, m5_InvalidWave, xL_InvalidWave, rfl⟩, sa := sa_InvalidWave, ga := ga_InvalidWave, gg := gg_InvalidWave, noN := nb_InvalidWave, iC := ai_InvalidWave, tC := ti_InvalidWave, kC := kc_InvalidWave, exC := ec_InvalidWave, tyC := tc_InvalidWave, hdC := hd_InvalidWave, te := PySem.W.exm_ref ec_InvalidWave hd_InvalidWave tc_InvalidWave ss_InvalidWave, fn := ⟨_, _, _, _, _, _, _, _, _, _, _, _, _, _, li_InvalidWave, ci_InvalidWave⟩ },
    e_InvalidWave := ⟨ga_InvalidWave, gg_InvalidWave, ec_InvalidWave, hd_InvalidWave, cl_InvalidWave, hn_cls, ht_cls, mo_InvalidWave⟩,
    c_InvalidTurns := c_InvalidTurns,
    i_InvalidTurns := i_InvalidTurns,
    x_InvalidTurns := { gC := PySem.W.mg_of X G ac_InvalidTurns, cls := ⟨nm_InvalidTurns, q_InvalidTurns, N_InvalidTurns, bs_InvalidTurns, _, sn_InvalidTurns, sub_InvalidTurns, ab_InvalidTurns, col_InvalidTurns, dd_InvalidTurns, m0_InvalidTurns, m1_InvalidTurns, m2_InvalidTurns, m3_InvalidTurns, m5_InvalidTurns, xL_InvalidTurns, rfl⟩, sa := sa_InvalidTurns, ga := ga_InvalidTurns, gg := gg_InvalidTurns, noN := nb_InvalidTurns, iC := ai_InvalidTurns, tC := ti_InvalidTurns, kC := kc_InvalidTurns, exC := ec_InvalidTurns, tyC := tc_InvalidTurns, hdC := hd_InvalidTurns, te := PySem.W.exm_ref ec_InvalidTurns hd_InvalidTurns tc_InvalidTurns ss_InvalidTurns, fn := ⟨_, _, _, _, _, _, _, _, _, _, _, _, _, _, li_InvalidTurns, ci_InvalidTurns⟩ },
    e_InvalidTurns := ⟨ga_InvalidTurns, gg_InvalidTurns, ec_InvalidTurns, hd_InvalidTurns, cl_InvalidTurns, hn_cls, ht_cls, mo_InvalidTurns⟩,
    xm_InvalidFraction := PySem.W.exm_ref ec_CamError hd_CamError tc_CamError sc_InvalidFraction,
    kv_InvalidFraction := Vd.kit_ty2 (by decide +kernel) sv_InvalidFraction,
    k_InvalidFraction_InvalidFraction := Vd.kit_self,
    k_InvalidFraction_InvalidTurn := Vd.kit_ne ss_InvalidFraction s_InvalidFraction_InvalidTurn ic_InvalidTurn tc_InvalidTurn,
    k_InvalidFraction_InvalidWave := Vd.kit_ne ss_InvalidFraction s_InvalidFraction_InvalidWave ic_InvalidWave tc_InvalidWave,
    k_InvalidFraction_InvalidTurns := Vd.kit_ne ss_InvalidFraction s_InvalidFraction_InvalidTurns ic_InvalidTurns tc_InvalidTurns,
    xm_InvalidTurn := PySem.W.exm_ref ec_CamError hd_CamError tc_CamError sc_InvalidTurn,
    kv_InvalidTurn := Vd.kit_ty2 (by decide +kernel) sv_InvalidTurn,
    k_InvalidTurn_InvalidFraction := Vd.kit_ne ss_InvalidTurn s_InvalidTurn_InvalidFraction ic_InvalidFraction tc_InvalidFraction,
    k_InvalidTurn_InvalidTurn := Vd.kit_self,
    k_InvalidTurn_InvalidWave := Vd.kit_ne ss_InvalidTurn s_InvalidTurn_InvalidWave ic_InvalidWave tc_InvalidWave,
    k_InvalidTurn_InvalidTurns := Vd.kit_ne ss_InvalidTurn s_InvalidTurn_InvalidTurns ic_InvalidTurns tc_InvalidTurns,
    xm_InvalidWave := PySem.W.exm_ref ec_CamError hd_CamError tc_CamError sc_InvalidWave,
    kv_InvalidWave := Vd.kit_ty2 (by decide +kernel) sv_InvalidWave,
    k_InvalidWave_InvalidFraction := Vd.kit_ne ss_InvalidWave s_InvalidWave_InvalidFraction ic_InvalidFraction tc_InvalidFraction,
    k_InvalidWave_InvalidTurn := Vd.kit_ne ss_InvalidWave s_InvalidWave_InvalidTurn ic_InvalidTurn tc_InvalidTurn,
    k_InvalidWave_InvalidWave := Vd.kit_self,
    k_InvalidWave_InvalidTurns := Vd.kit_ne ss_InvalidWave s_InvalidWave_InvalidTurns ic_InvalidTurns tc_InvalidTurns,
    xm_InvalidTurns := PySem.W.exm_ref ec_CamError hd_CamError tc_CamError sc_InvalidTurns,
    kv_InvalidTurns := Vd.kit_ty2 (by decide +kernel) sv_InvalidTurns,
    k_InvalidTurns_InvalidFraction := Vd.kit_ne ss_InvalidTurns s_InvalidTurns_InvalidFraction ic_InvalidFraction tc_InvalidFraction,
    k_InvalidTurns_InvalidTurn := Vd.kit_ne ss_InvalidTurns s_InvalidTurns_InvalidTurn ic_InvalidTurn tc_InvalidTurn,
    k_InvalidTurns_InvalidWave := Vd.kit_ne ss_InvalidTurns s_InvalidTurns_InvalidWave ic_InvalidWave tc_InvalidWave,
    k_InvalidTurns_InvalidTurns := Vd.kit_self,
    z_abs := PySem.W.mg_none_of X G z_abs,
    z_all := PySem.W.mg_none_of X G z_all,
    z_bool := PySem.W.mg_none_of X G z_bool,
    z_divmod := PySem.W.mg_none_of X G z_divmod,
    z_enumerate := PySem.W.mg_none_of X G z_enumerate,
    z_int := PySem.W.mg_none_of X G z_int,
    z_isinstance := PySem.W.mg_none_of X G z_isinstance,
    z_len := PySem.W.mg_none_of X G z_len,
    z_list := PySem.W.mg_none_of X G z_list,
    z_max := PySem.W.mg_none_of X G z_max,
    z_min := PySem.W.mg_none_of X G z_min,
    z_range := PySem.W.mg_none_of X G z_range,
    z_repr := PySem.W.mg_none_of X G z_repr,
    z_reversed := PySem.W.mg_none_of X G z_reversed,
    z_sorted := PySem.W.mg_none_of X G z_sorted,
    z_sum := PySem.W.mg_none_of X G z_sum,
    z_tuple := PySem.W.mg_none_of X G z_tuple,
    z_zip := PySem.W.mg_none_of X G z_zip,
    m_comb := PySem.W.mg_of X G g_comb,
    m_combinations := PySem.W.mg_of X G g_combinations,
    m_gcd := PySem.W.mg_of X G g_gcd,
    m_lcm := PySem.W.mg_of X G g_lcm,
    a_NOUGHT := a_NOUGHT, g_NOUGHT := PySem.W.mg_of X G g_NOUGHT, d_NOUGHT := d_NOUGHT,
    a_ONE := a_ONE, g_ONE := PySem.W.mg_of X G g_ONE, d_ONE := d_ONE,
    g_PRIME := ⟨_, PySem.W.mg_of X G g_PRIME⟩,
    g_FIRST_MODULUS := ⟨_, PySem.W.mg_of X G g_FIRST_MODULUS⟩,
    a_EAST := a_EAST, g_EAST := PySem.W.mg_of X G g_EAST, d_EAST := d_EAST,
    a_WEST := a_WEST, g_WEST := PySem.W.mg_of X G g_WEST, d_WEST := d_WEST,
    g_MOST_HARMONICS := ⟨_, PySem.W.mg_of X G g_MOST_HARMONICS⟩,
    a_BLANK := a_BLANK, g_BLANK := PySem.W.mg_of X G g_BLANK, d_BLANK := d_BLANK,
    g_MIDDLE := ⟨_, PySem.W.mg_of X G g_MIDDLE⟩,
    g_HARMONIC := ⟨_, PySem.W.mg_of X G g_HARMONIC⟩,
    g_TURN := ⟨_, PySem.W.mg_of X G g_TURN⟩,
    a_QUARTER_TURNS := a_QUARTER_TURNS, g_QUARTER_TURNS := PySem.W.mg_of X G g_QUARTER_TURNS, d_QUARTER_TURNS := d_QUARTER_TURNS }
  exact ⟨PySem.W.fnOf "law" "law" (defArgs s_law) (defBody s_law) (defScope s_law) .none kV_law dc_law pm_law an_law cd_law ct_law, f_in_order, _, _, fun s v => .of_eq rfl, PySem.W.mg_of X G a_in_order, l_in_order, rfl, tof, Vd.code_at c_in_order, fun c Pt base hc hP _ _ TB _ => ok_law (P := l.prog) (w := w) (base := base) T TB hc hP⟩
end
end My
set_option Elab.async false
set_option linter.all false
set_option maxRecDepth 100000
set_option maxHeartbeats 4000000
namespace My
end My
open PySem PySem.W PyProof.Rows
set_option maxHeartbeats 0 in
theorem PySem.Challenge.cw_framecams_k86_whole_folds_and_axes_holds : PySem.Challenge.rw_framecams_k86_whole_folds_and_axes.Holds := by
  w_on; o_law; k_head; (case hw => w_witness2)
  k_fill
  refine Vd.lawGTS "in_order" (by decide +kernel) rfl (by decide +kernel) (l := PySem.Challenge.rw_framecams_k86_whole_folds_and_axes) (n := 63) (k := 52) (x := "_law_script") rfl (by decide) rfl ⟨rfl, by decide, by decide⟩ (fun w h Y => PySem.W.km_in_of Y) ?nT ?F
  (case nT => intro w; first | k_is | kernel_rfl)
  case F =>
    intro w mg fa h KX G hmg
    refine' My.all_mk KX G hmg ?a_is_whole ?l_is_whole ?c_is_whole ?k_is_whole ?a_is_fraction ?l_is_fraction ?c_is_fraction ?k_is_fraction ?a_is_fraction_pair ?l_is_fraction_pair ?c_is_fraction_pair ?k_is_fraction_pair ?a_check_fraction ?l_check_fraction ?c_check_fraction ?k_check_fraction ?a_ratio ?l_ratio ?c_ratio ?k_ratio ?a_ratio_sum ?l_ratio_sum ?c_ratio_sum ?k_ratio_sum ?a_ratio_product ?l_ratio_product ?c_ratio_product ?k_ratio_product ?a_ratio_negative ?l_ratio_negative ?c_ratio_negative ?k_ratio_negative ?a_trimmed ?l_trimmed ?c_trimmed ?k_trimmed ?a_scaled_worth ?l_scaled_worth ?c_scaled_worth ?k_scaled_worth ?a_slope_of ?l_slope_of ?c_slope_of ?k_slope_of ?a_primitive ?l_primitive ?c_primitive ?k_primitive ?a_quotient ?l_quotient ?c_quotient ?k_quotient ?a_digits_of ?l_digits_of ?c_digits_of ?k_digits_of ?a_shared_factor ?l_shared_factor ?c_shared_factor ?k_shared_factor ?a_rest_by_prime ?l_rest_by_prime ?c_rest_by_prime ?k_rest_by_prime ?a_is_surely_single ?l_is_surely_single ?c_is_surely_single ?k_is_surely_single ?a_single_factors ?l_single_factors ?c_single_factors ?k_single_factors ?a_fraction_root ?l_fraction_root ?c_fraction_root ?k_fraction_root ?a_remainder_at ?l_remainder_at ?c_remainder_at ?k_remainder_at ?a_roots_by ?l_roots_by ?c_roots_by ?k_roots_by ?a_has_clear_roots ?l_has_clear_roots ?c_has_clear_roots ?k_has_clear_roots ?a_lifted ?l_lifted ?c_lifted ?k_lifted ?a_is_turn ?l_is_turn ?c_is_turn ?k_is_turn ?a_check_turn ?l_check_turn ?c_check_turn ?k_check_turn ?a_check_turns ?l_check_turns ?c_check_turns ?k_check_turns ?a_turn_of ?l_turn_of ?c_turn_of ?k_turn_of ?a_join_turns ?l_join_turns ?c_join_turns ?k_join_turns ?a_back ?l_back ?c_back ?k_back ?a_join_powers ?l_join_powers ?c_join_powers ?k_join_powers ?a_turn_times ?l_turn_times ?c_turn_times ?k_turn_times ?a_in_order ?l_in_order ?c_in_order ?k_in_order ?a_order_key ?l_order_key ?c_order_key ?k_order_key ?a_is_wave ?l_is_wave ?c_is_wave ?k_is_wave ?a_check_wave ?l_check_wave ?c_check_wave ?k_check_wave ?a_made_wave ?l_made_wave ?c_made_wave ?k_made_wave ?a_pair_at ?l_pair_at ?c_pair_at ?k_pair_at ?a_pair_product ?l_pair_product ?c_pair_product ?k_pair_product ?a_mirrored ?l_mirrored ?c_mirrored ?k_mirrored ?a_harmonics_of ?l_harmonics_of ?c_harmonics_of ?k_harmonics_of ?a_common_size ?l_common_size ?c_common_size ?k_common_size ?a_whole_wave ?l_whole_wave ?c_whole_wave ?k_whole_wave ?a_half_row ?l_half_row ?c_half_row ?k_half_row ?a_quarter_rows ?l_quarter_rows ?c_quarter_rows ?k_quarter_rows ?a_zero_turn ?l_zero_turn ?c_zero_turn ?k_zero_turn ?a_are_alike ?l_are_alike ?c_are_alike ?k_are_alike ?a_are_mirror_alike ?l_are_mirror_alike ?c_are_mirror_alike ?k_are_mirror_alike ?a_has_axis ?l_has_axis ?c_has_axis ?k_has_axis ?a_fold ?l_fold ?c_fold ?k_fold ?a_parting ?l_parting ?c_parting ?k_parting ?a_length_square ?l_length_square ?c_length_square ?k_length_square ?a_steps_between ?l_steps_between ?c_steps_between ?k_steps_between ?a_step_between ?l_step_between ?c_step_between ?k_step_between ?a_have_one_turn ?l_have_one_turn ?c_have_one_turn ?k_have_one_turn ?a_carrying_turns ?l_carrying_turns ?c_carrying_turns ?k_carrying_turns ?a_shared_step ?l_shared_step ?c_shared_step ?k_shared_step ?a_turns_with_power ?l_turns_with_power ?c_turns_with_power ?k_turns_with_power ?a_l_tap ?l_l_tap ?c_l_tap ?k_l_tap ?a_l_dip ?l_l_dip ?c_l_dip ?k_l_dip ?a_l_of ?l_l_of ?c_l_of ?k_l_of ?a_l_gcd ?l_l_gcd ?c_l_gcd ?k_l_gcd ?a_l_ratio ?l_l_ratio ?c_l_ratio ?k_l_ratio ?a_l_div ?l_l_div ?c_l_div ?k_l_div ?a_l_opp ?l_l_opp ?c_l_opp ?k_l_opp ?a_l_dot ?l_l_dot ?c_l_dot ?k_l_dot ?a_l_cross ?l_l_cross ?c_l_cross ?k_l_cross ?a_l_back ?l_l_back ?c_l_back ?k_l_back ?a_l_climb ?l_l_climb ?c_l_climb ?k_l_climb ?a_l_angle ?l_l_angle ?c_l_angle ?k_l_angle ?a_l_turn ?l_l_turn ?c_l_turn ?k_l_turn ?a_l_bit ?l_l_bit ?c_l_bit ?k_l_bit ?a_l_trim ?l_l_trim ?c_l_trim ?k_l_trim ?a_l_turned ?l_l_turned ?c_l_turned ?k_l_turned ?a_l_mirror ?l_l_mirror ?c_l_mirror ?k_l_mirror ?a_l_plain ?l_l_plain ?c_l_plain ?k_l_plain ?a_l_numbers ?l_l_numbers ?c_l_numbers ?k_l_numbers ?a_l_shared ?l_l_shared ?c_l_shared ?k_l_shared ?a_l_joint ?l_l_joint ?c_l_joint ?k_l_joint ?a_l_settled ?l_l_settled ?c_l_settled ?k_l_settled ?a_l_are_alike ?l_l_are_alike ?c_l_are_alike ?k_l_are_alike ?a_l_spun ?l_l_spun ?c_l_spun ?k_l_spun ?a_l_stepped ?l_l_stepped ?c_l_stepped ?k_l_stepped ?a_l_common ?l_l_common ?c_l_common ?k_l_common ?a_l_unit ?l_l_unit ?c_l_unit ?k_l_unit ?a_l_drawn ?l_l_drawn ?c_l_drawn ?k_l_drawn ?a_l_right ?l_l_right ?c_l_right ?k_l_right ?a_law ?l_law ?c_law ?k_law ?ac_CamError ?ac_InvalidFraction ?xL_InvalidFraction ?sa_InvalidFraction ?ga_InvalidFraction ?gg_InvalidFraction ?nb_InvalidFraction ?cl_InvalidFraction ?mo_InvalidFraction ?kc_InvalidFraction ?ec_InvalidFraction ?tc_InvalidFraction ?hd_InvalidFraction ?ic_InvalidFraction ?ai_InvalidFraction ?ti_InvalidFraction ?li_InvalidFraction ?ci_InvalidFraction ?ss_InvalidFraction ?ac_InvalidTurn ?xL_InvalidTurn ?sa_InvalidTurn ?ga_InvalidTurn ?gg_InvalidTurn ?nb_InvalidTurn ?cl_InvalidTurn ?mo_InvalidTurn ?kc_InvalidTurn ?ec_InvalidTurn ?tc_InvalidTurn ?hd_InvalidTurn ?ic_InvalidTurn ?ai_InvalidTurn ?ti_InvalidTurn ?li_InvalidTurn ?ci_InvalidTurn ?ss_InvalidTurn ?ac_InvalidWave ?xL_InvalidWave ?sa_InvalidWave ?ga_InvalidWave ?gg_InvalidWave ?nb_InvalidWave ?cl_InvalidWave ?mo_InvalidWave ?kc_InvalidWave ?ec_InvalidWave ?tc_InvalidWave ?hd_InvalidWave ?ic_InvalidWave ?ai_InvalidWave ?ti_InvalidWave ?li_InvalidWave ?ci_InvalidWave ?ss_InvalidWave ?ac_InvalidTurns ?xL_InvalidTurns ?sa_InvalidTurns ?ga_InvalidTurns ?gg_InvalidTurns ?nb_InvalidTurns ?cl_InvalidTurns ?mo_InvalidTurns ?kc_InvalidTurns ?ec_InvalidTurns ?tc_InvalidTurns ?hd_InvalidTurns ?ic_InvalidTurns ?ai_InvalidTurns ?ti_InvalidTurns ?li_InvalidTurns ?ci_InvalidTurns ?ss_InvalidTurns ?hn_cls ?ht_cls ?sc_InvalidFraction ?sv_InvalidFraction ?s_InvalidFraction_InvalidTurn ?s_InvalidFraction_InvalidWave ?s_InvalidFraction_InvalidTurns ?sc_InvalidTurn ?sv_InvalidTurn ?s_InvalidTurn_InvalidFraction ?s_InvalidTurn_InvalidWave ?s_InvalidTurn_InvalidTurns ?sc_InvalidWave ?sv_InvalidWave ?s_InvalidWave_InvalidFraction ?s_InvalidWave_InvalidTurn ?s_InvalidWave_InvalidTurns ?sc_InvalidTurns ?sv_InvalidTurns ?s_InvalidTurns_InvalidFraction ?s_InvalidTurns_InvalidTurn ?s_InvalidTurns_InvalidWave ?ec_CamError ?tc_CamError ?hd_CamError ?z_abs ?z_all ?z_bool ?z_divmod ?z_enumerate ?z_int ?z_isinstance ?z_len ?z_list ?z_max ?z_min ?z_range ?z_repr ?z_reversed ?z_sorted ?z_sum ?z_tuple ?z_zip ?g_comb ?g_combinations ?g_gcd ?g_lcm ?g_NOUGHT ?d_NOUGHT ?g_ONE ?d_ONE ?g_PRIME ?g_FIRST_MODULUS ?g_EAST ?d_EAST ?g_WEST ?d_WEST ?g_MOST_HARMONICS ?g_BLANK ?d_BLANK ?g_MIDDLE ?g_HARMONIC ?g_TURN ?g_QUARTER_TURNS ?d_QUARTER_TURNS ?tof
    (case a_is_whole => k_is)
    (case l_is_whole => k_is)
    (case c_is_whole => k_is)
    (case k_is_whole => k_is)
    (case a_is_fraction => k_is)
    (case l_is_fraction => k_is)
    (case c_is_fraction => k_is)
    (case k_is_fraction => k_is)
    (case a_is_fraction_pair => k_is)
    (case l_is_fraction_pair => k_is)
    (case c_is_fraction_pair => k_is)
    (case k_is_fraction_pair => k_is)
    (case a_check_fraction => k_is)
    (case l_check_fraction => k_is)
    (case c_check_fraction => k_is)
    (case k_check_fraction => k_is)
    (case a_ratio => k_is)
    (case l_ratio => k_is)
    (case c_ratio => k_is)
    (case k_ratio => k_is)
    (case a_ratio_sum => k_is)
    (case l_ratio_sum => k_is)
    (case c_ratio_sum => k_is)
    (case k_ratio_sum => k_is)
    (case a_ratio_product => k_is)
    (case l_ratio_product => k_is)
    (case c_ratio_product => k_is)
    (case k_ratio_product => k_is)
    (case a_ratio_negative => k_is)
    (case l_ratio_negative => k_is)
    (case c_ratio_negative => k_is)
    (case k_ratio_negative => k_is)
    (case a_trimmed => k_is)
    (case l_trimmed => k_is)
    (case c_trimmed => k_is)
    (case k_trimmed => k_is)
    (case a_scaled_worth => k_is)
    (case l_scaled_worth => k_is)
    (case c_scaled_worth => k_is)
    (case k_scaled_worth => k_is)
    (case a_slope_of => k_is)
    (case l_slope_of => k_is)
    (case c_slope_of => k_is)
    (case k_slope_of => k_is)
    (case a_primitive => k_is)
    (case l_primitive => k_is)
    (case c_primitive => k_is)
    (case k_primitive => k_is)
    (case a_quotient => k_is)
    (case l_quotient => k_is)
    (case c_quotient => k_is)
    (case k_quotient => k_is)
    (case a_digits_of => k_is)
    (case l_digits_of => k_is)
    (case c_digits_of => k_is)
    (case k_digits_of => k_is)
    (case a_shared_factor => k_is)
    (case l_shared_factor => k_is)
    (case c_shared_factor => k_is)
    (case k_shared_factor => k_is)
    (case a_rest_by_prime => k_is)
    (case l_rest_by_prime => k_is)
    (case c_rest_by_prime => k_is)
    (case k_rest_by_prime => k_is)
    (case a_is_surely_single => k_is)
    (case l_is_surely_single => k_is)
    (case c_is_surely_single => k_is)
    (case k_is_surely_single => k_is)
    (case a_single_factors => k_is)
    (case l_single_factors => k_is)
    (case c_single_factors => k_is)
    (case k_single_factors => k_is)
    (case a_fraction_root => k_is)
    (case l_fraction_root => k_is)
    (case c_fraction_root => k_is)
    (case k_fraction_root => k_is)
    (case a_remainder_at => k_is)
    (case l_remainder_at => k_is)
    (case c_remainder_at => k_is)
    (case k_remainder_at => k_is)
    (case a_roots_by => k_is)
    (case l_roots_by => k_is)
    (case c_roots_by => k_is)
    (case k_roots_by => k_is)
    (case a_has_clear_roots => k_is)
    (case l_has_clear_roots => k_is)
    (case c_has_clear_roots => k_is)
    (case k_has_clear_roots => k_is)
    (case a_lifted => k_is)
    (case l_lifted => k_is)
    (case c_lifted => k_is)
    (case k_lifted => k_is)
    (case a_is_turn => k_is)
    (case l_is_turn => k_is)
    (case c_is_turn => k_is)
    (case k_is_turn => k_is)
    (case a_check_turn => k_is)
    (case l_check_turn => k_is)
    (case c_check_turn => k_is)
    (case k_check_turn => k_is)
    (case a_check_turns => k_is)
    (case l_check_turns => k_is)
    (case c_check_turns => k_is)
    (case k_check_turns => k_is)
    (case a_turn_of => k_is)
    (case l_turn_of => k_is)
    (case c_turn_of => k_is)
    (case k_turn_of => k_is)
    (case a_join_turns => k_is)
    (case l_join_turns => k_is)
    (case c_join_turns => k_is)
    (case k_join_turns => k_is)
    (case a_back => k_is)
    (case l_back => k_is)
    (case c_back => k_is)
    (case k_back => k_is)
    (case a_join_powers => k_is)
    (case l_join_powers => k_is)
    (case c_join_powers => k_is)
    (case k_join_powers => k_is)
    (case a_turn_times => k_is)
    (case l_turn_times => k_is)
    (case c_turn_times => k_is)
    (case k_turn_times => k_is)
    (case a_in_order => k_is)
    (case l_in_order => k_is)
    (case c_in_order => k_is)
    (case k_in_order => k_is)
    (case a_order_key => k_is)
    (case l_order_key => k_is)
    (case c_order_key => k_is)
    (case k_order_key => k_is)
    (case a_is_wave => k_is)
    (case l_is_wave => k_is)
    (case c_is_wave => k_is)
    (case k_is_wave => k_is)
    (case a_check_wave => k_is)
    (case l_check_wave => k_is)
    (case c_check_wave => k_is)
    (case k_check_wave => k_is)
    (case a_made_wave => k_is)
    (case l_made_wave => k_is)
    (case c_made_wave => k_is)
    (case k_made_wave => k_is)
    (case a_pair_at => k_is)
    (case l_pair_at => k_is)
    (case c_pair_at => k_is)
    (case k_pair_at => k_is)
    (case a_pair_product => k_is)
    (case l_pair_product => k_is)
    (case c_pair_product => k_is)
    (case k_pair_product => k_is)
    (case a_mirrored => k_is)
    (case l_mirrored => k_is)
    (case c_mirrored => k_is)
    (case k_mirrored => k_is)
    (case a_harmonics_of => k_is)
    (case l_harmonics_of => k_is)
    (case c_harmonics_of => k_is)
    (case k_harmonics_of => k_is)
    (case a_common_size => k_is)
    (case l_common_size => k_is)
    (case c_common_size => k_is)
    (case k_common_size => k_is)
    (case a_whole_wave => k_is)
    (case l_whole_wave => k_is)
    (case c_whole_wave => k_is)
    (case k_whole_wave => k_is)
    (case a_half_row => k_is)
    (case l_half_row => k_is)
    (case c_half_row => k_is)
    (case k_half_row => k_is)
    (case a_quarter_rows => k_is)
    (case l_quarter_rows => k_is)
    (case c_quarter_rows => k_is)
    (case k_quarter_rows => k_is)
    (case a_zero_turn => k_is)
    (case l_zero_turn => k_is)
    (case c_zero_turn => k_is)
    (case k_zero_turn => k_is)
    (case a_are_alike => k_is)
    (case l_are_alike => k_is)
    (case c_are_alike => k_is)
    (case k_are_alike => k_is)
    (case a_are_mirror_alike => k_is)
    (case l_are_mirror_alike => k_is)
    (case c_are_mirror_alike => k_is)
    (case k_are_mirror_alike => k_is)
    (case a_has_axis => k_is)
    (case l_has_axis => k_is)
    (case c_has_axis => k_is)
    (case k_has_axis => k_is)
    (case a_fold => k_is)
    (case l_fold => k_is)
    (case c_fold => k_is)
    (case k_fold => k_is)
    (case a_parting => k_is)
    (case l_parting => k_is)
    (case c_parting => k_is)
    (case k_parting => k_is)
    (case a_length_square => k_is)
    (case l_length_square => k_is)
    (case c_length_square => k_is)
    (case k_length_square => k_is)
    (case a_steps_between => k_is)
    (case l_steps_between => k_is)
    (case c_steps_between => k_is)
    (case k_steps_between => k_is)
    (case a_step_between => k_is)
    (case l_step_between => k_is)
    (case c_step_between => k_is)
    (case k_step_between => k_is)
    (case a_have_one_turn => k_is)
    (case l_have_one_turn => k_is)
    (case c_have_one_turn => k_is)
    (case k_have_one_turn => k_is)
    (case a_carrying_turns => k_is)
    (case l_carrying_turns => k_is)
    (case c_carrying_turns => k_is)
    (case k_carrying_turns => k_is)
    (case a_shared_step => k_is)
    (case l_shared_step => k_is)
    (case c_shared_step => k_is)
    (case k_shared_step => k_is)
    (case a_turns_with_power => k_is)
    (case l_turns_with_power => k_is)
    (case c_turns_with_power => k_is)
    (case k_turns_with_power => k_is)
    (case a_l_tap => k_is)
    (case l_l_tap => k_is)
    (case c_l_tap => k_is)
    (case k_l_tap => k_is)
    (case a_l_dip => k_is)
    (case l_l_dip => k_is)
    (case c_l_dip => k_is)
    (case k_l_dip => k_is)
    (case a_l_of => k_is)
    (case l_l_of => k_is)
    (case c_l_of => k_is)
    (case k_l_of => k_is)
    (case a_l_gcd => k_is)
    (case l_l_gcd => k_is)
    (case c_l_gcd => k_is)
    (case k_l_gcd => k_is)
    (case a_l_ratio => k_is)
    (case l_l_ratio => k_is)
    (case c_l_ratio => k_is)
    (case k_l_ratio => k_is)
    (case a_l_div => k_is)
    (case l_l_div => k_is)
    (case c_l_div => k_is)
    (case k_l_div => k_is)
    (case a_l_opp => k_is)
    (case l_l_opp => k_is)
    (case c_l_opp => k_is)
    (case k_l_opp => k_is)
    (case a_l_dot => k_is)
    (case l_l_dot => k_is)
    (case c_l_dot => k_is)
    (case k_l_dot => k_is)
    (case a_l_cross => k_is)
    (case l_l_cross => k_is)
    (case c_l_cross => k_is)
    (case k_l_cross => k_is)
    (case a_l_back => k_is)
    (case l_l_back => k_is)
    (case c_l_back => k_is)
    (case k_l_back => k_is)
    (case a_l_climb => k_is)
    (case l_l_climb => k_is)
    (case c_l_climb => k_is)
    (case k_l_climb => k_is)
    (case a_l_angle => k_is)
    (case l_l_angle => k_is)
    (case c_l_angle => k_is)
    (case k_l_angle => k_is)
    (case a_l_turn => k_is)
    (case l_l_turn => k_is)
    (case c_l_turn => k_is)
    (case k_l_turn => k_is)
    (case a_l_bit => k_is)
    (case l_l_bit => k_is)
    (case c_l_bit => k_is)
    (case k_l_bit => k_is)
    (case a_l_trim => k_is)
    (case l_l_trim => k_is)
    (case c_l_trim => k_is)
    (case k_l_trim => k_is)
    (case a_l_turned => k_is)
    (case l_l_turned => k_is)
    (case c_l_turned => k_is)
    (case k_l_turned => k_is)
    (case a_l_mirror => k_is)
    (case l_l_mirror => k_is)
    (case c_l_mirror => k_is)
    (case k_l_mirror => k_is)
    (case a_l_plain => k_is)
    (case l_l_plain => k_is)
    (case c_l_plain => k_is)
    (case k_l_plain => k_is)
    (case a_l_numbers => k_is)
    (case l_l_numbers => k_is)
    (case c_l_numbers => k_is)
    (case k_l_numbers => k_is)
    (case a_l_shared => k_is)
    (case l_l_shared => k_is)
    (case c_l_shared => k_is)
    (case k_l_shared => k_is)
    (case a_l_joint => k_is)
    (case l_l_joint => k_is)
    (case c_l_joint => k_is)
    (case k_l_joint => k_is)
    (case a_l_settled => k_is)
    (case l_l_settled => k_is)
    (case c_l_settled => k_is)
    (case k_l_settled => k_is)
    (case a_l_are_alike => k_is)
    (case l_l_are_alike => k_is)
    (case c_l_are_alike => k_is)
    (case k_l_are_alike => k_is)
    (case a_l_spun => k_is)
    (case l_l_spun => k_is)
    (case c_l_spun => k_is)
    (case k_l_spun => k_is)
    (case a_l_stepped => k_is)
    (case l_l_stepped => k_is)
    (case c_l_stepped => k_is)
    (case k_l_stepped => k_is)
    (case a_l_common => k_is)
    (case l_l_common => k_is)
    (case c_l_common => k_is)
    (case k_l_common => k_is)
    (case a_l_unit => k_is)
    (case l_l_unit => k_is)
    (case c_l_unit => k_is)
    (case k_l_unit => k_is)
    (case a_l_drawn => k_is)
    (case l_l_drawn => k_is)
    (case c_l_drawn => k_is)
    (case k_l_drawn => k_is)
    (case a_l_right => k_is)
    (case l_l_right => k_is)
    (case c_l_right => k_is)
    (case k_l_right => k_is)
    (case a_law => k_is)
    (case l_law => k_is)
    (case c_law => k_is)
    (case k_law => k_is)
    (case ac_CamError => k_is)
    (case ac_InvalidFraction => k_is)
    (case xL_InvalidFraction => k_is)
    (case sa_InvalidFraction => k_is)
    (case ga_InvalidFraction => k_is)
    (case gg_InvalidFraction => k_is)
    (case nb_InvalidFraction => k_is)
    (case cl_InvalidFraction => k_is)
    (case mo_InvalidFraction => k_is)
    (case kc_InvalidFraction => k_is)
    (case ec_InvalidFraction => k_is)
    (case tc_InvalidFraction => k_is)
    (case hd_InvalidFraction => k_is)
    (case ic_InvalidFraction => k_is)
    (case ai_InvalidFraction => k_is)
    (case ti_InvalidFraction => k_is)
    (case li_InvalidFraction => k_is)
    (case ci_InvalidFraction => k_is)
    (case ss_InvalidFraction => first | k_is | rfl)
    (case ac_InvalidTurn => k_is)
    (case xL_InvalidTurn => k_is)
    (case sa_InvalidTurn => k_is)
    (case ga_InvalidTurn => k_is)
    (case gg_InvalidTurn => k_is)
    (case nb_InvalidTurn => k_is)
    (case cl_InvalidTurn => k_is)
    (case mo_InvalidTurn => k_is)
    (case kc_InvalidTurn => k_is)
    (case ec_InvalidTurn => k_is)
    (case tc_InvalidTurn => k_is)
    (case hd_InvalidTurn => k_is)
    (case ic_InvalidTurn => k_is)
    (case ai_InvalidTurn => k_is)
    (case ti_InvalidTurn => k_is)
    (case li_InvalidTurn => k_is)
    (case ci_InvalidTurn => k_is)
    (case ss_InvalidTurn => first | k_is | rfl)
    (case ac_InvalidWave => k_is)
    (case xL_InvalidWave => k_is)
    (case sa_InvalidWave => k_is)
    (case ga_InvalidWave => k_is)
    (case gg_InvalidWave => k_is)
    (case nb_InvalidWave => k_is)
    (case cl_InvalidWave => k_is)
    (case mo_InvalidWave => k_is)
    (case kc_InvalidWave => k_is)
    (case ec_InvalidWave => k_is)
    (case tc_InvalidWave => k_is)
    (case hd_InvalidWave => k_is)
    (case ic_InvalidWave => k_is)
    (case ai_InvalidWave => k_is)
    (case ti_InvalidWave => k_is)
    (case li_InvalidWave => k_is)
    (case ci_InvalidWave => k_is)
    (case ss_InvalidWave => first | k_is | rfl)
    (case ac_InvalidTurns => k_is)
    (case xL_InvalidTurns => k_is)
    (case sa_InvalidTurns => k_is)
    (case ga_InvalidTurns => k_is)
    (case gg_InvalidTurns => k_is)
    (case nb_InvalidTurns => k_is)
    (case cl_InvalidTurns => k_is)
    (case mo_InvalidTurns => k_is)
    (case kc_InvalidTurns => k_is)
    (case ec_InvalidTurns => k_is)
    (case tc_InvalidTurns => k_is)
    (case hd_InvalidTurns => k_is)
    (case ic_InvalidTurns => k_is)
    (case ai_InvalidTurns => k_is)
    (case ti_InvalidTurns => k_is)
    (case li_InvalidTurns => k_is)
    (case ci_InvalidTurns => k_is)
    (case ss_InvalidTurns => first | k_is | rfl)
    (case hn_cls => k_is)
    (case ht_cls => k_is)
    (case sc_InvalidFraction => k_is)
    (case sv_InvalidFraction => k_is)
    (case s_InvalidFraction_InvalidTurn => k_is)
    (case s_InvalidFraction_InvalidWave => k_is)
    (case s_InvalidFraction_InvalidTurns => k_is)
    (case sc_InvalidTurn => k_is)
    (case sv_InvalidTurn => k_is)
    (case s_InvalidTurn_InvalidFraction => k_is)
    (case s_InvalidTurn_InvalidWave => k_is)
    (case s_InvalidTurn_InvalidTurns => k_is)
    (case sc_InvalidWave => k_is)
    (case sv_InvalidWave => k_is)
    (case s_InvalidWave_InvalidFraction => k_is)
    (case s_InvalidWave_InvalidTurn => k_is)
    (case s_InvalidWave_InvalidTurns => k_is)
    (case sc_InvalidTurns => k_is)
    (case sv_InvalidTurns => k_is)
    (case s_InvalidTurns_InvalidFraction => k_is)
    (case s_InvalidTurns_InvalidTurn => k_is)
    (case s_InvalidTurns_InvalidWave => k_is)
    (case ec_CamError => k_is)
    (case tc_CamError => k_is)
    (case hd_CamError => k_is)
    (case z_abs => k_is)
    (case z_all => k_is)
    (case z_bool => k_is)
    (case z_divmod => k_is)
    (case z_enumerate => k_is)
    (case z_int => k_is)
    (case z_isinstance => k_is)
    (case z_len => k_is)
    (case z_list => k_is)
    (case z_max => k_is)
    (case z_min => k_is)
    (case z_range => k_is)
    (case z_repr => k_is)
    (case z_reversed => k_is)
    (case z_sorted => k_is)
    (case z_sum => k_is)
    (case z_tuple => k_is)
    (case z_zip => k_is)
    (case g_comb => k_is)
    (case g_combinations => k_is)
    (case g_gcd => k_is)
    (case g_lcm => k_is)
    (case g_NOUGHT => k_is)
    (case d_NOUGHT => exact (Vd.kd_tup (by k_is) ⟨rfl, rfl⟩ (by repeat (first | exact .nil | refine .cons (by first | rfl | exact ⟨_, rfl⟩) ?_)) (by decide) (Vd.KDs.cons Vd.kd_int (Vd.KDs.cons Vd.kd_int Vd.KDs.nil))))
    (case g_ONE => k_is)
    (case d_ONE => exact (Vd.kd_tup (by k_is) ⟨rfl, rfl⟩ (by repeat (first | exact .nil | refine .cons (by first | rfl | exact ⟨_, rfl⟩) ?_)) (by decide) (Vd.KDs.cons Vd.kd_int (Vd.KDs.cons Vd.kd_int Vd.KDs.nil))))
    (case g_PRIME => k_is)
    (case g_FIRST_MODULUS => k_is)
    (case g_EAST => k_is)
    (case d_EAST => exact (Vd.kd_tup (by k_is) ⟨rfl, rfl⟩ (by repeat (first | exact .nil | refine .cons (by first | rfl | exact ⟨_, rfl⟩) ?_)) (by decide) (Vd.KDs.cons (Vd.kd_tup (by k_is) ⟨rfl, rfl⟩ (by repeat (first | exact .nil | refine .cons (by first | rfl | exact ⟨_, rfl⟩) ?_)) (by decide) (Vd.KDs.cons Vd.kd_int (Vd.KDs.cons Vd.kd_int Vd.KDs.nil))) (Vd.KDs.cons (Vd.kd_tup (by k_is) ⟨rfl, rfl⟩ (by repeat (first | exact .nil | refine .cons (by first | rfl | exact ⟨_, rfl⟩) ?_)) (by decide) (Vd.KDs.cons Vd.kd_int (Vd.KDs.cons Vd.kd_int Vd.KDs.nil))) Vd.KDs.nil))))
    (case g_WEST => k_is)
    (case d_WEST => exact (Vd.kd_tup (by k_is) ⟨rfl, rfl⟩ (by repeat (first | exact .nil | refine .cons (by first | rfl | exact ⟨_, rfl⟩) ?_)) (by decide) (Vd.KDs.cons (Vd.kd_tup (by k_is) ⟨rfl, rfl⟩ (by repeat (first | exact .nil | refine .cons (by first | rfl | exact ⟨_, rfl⟩) ?_)) (by decide) (Vd.KDs.cons Vd.kd_int (Vd.KDs.cons Vd.kd_int Vd.KDs.nil))) (Vd.KDs.cons (Vd.kd_tup (by k_is) ⟨rfl, rfl⟩ (by repeat (first | exact .nil | refine .cons (by first | rfl | exact ⟨_, rfl⟩) ?_)) (by decide) (Vd.KDs.cons Vd.kd_int (Vd.KDs.cons Vd.kd_int Vd.KDs.nil))) Vd.KDs.nil))))
    (case g_MOST_HARMONICS => k_is)
    (case g_BLANK => k_is)
    (case d_BLANK => exact (Vd.kd_tup (by k_is) ⟨rfl, rfl⟩ (by repeat (first | exact .nil | refine .cons (by first | rfl | exact ⟨_, rfl⟩) ?_)) (by decide) (Vd.KDs.cons (Vd.kd_tup (by k_is) ⟨rfl, rfl⟩ (by repeat (first | exact .nil | refine .cons (by first | rfl | exact ⟨_, rfl⟩) ?_)) (by decide) (Vd.KDs.cons Vd.kd_int (Vd.KDs.cons Vd.kd_int Vd.KDs.nil))) (Vd.KDs.cons (Vd.kd_tup (by k_is) ⟨rfl, rfl⟩ (by repeat (first | exact .nil | refine .cons (by first | rfl | exact ⟨_, rfl⟩) ?_)) (by decide) (Vd.KDs.cons Vd.kd_int (Vd.KDs.cons Vd.kd_int Vd.KDs.nil))) Vd.KDs.nil))))
    (case g_MIDDLE => k_is)
    (case g_HARMONIC => k_is)
    (case g_TURN => k_is)
    (case g_QUARTER_TURNS => k_is)
    (case d_QUARTER_TURNS => exact (Vd.kd_tup (by k_is) ⟨rfl, rfl⟩ (by repeat (first | exact .nil | refine .cons (by first | rfl | exact ⟨_, rfl⟩) ?_)) (by decide) (Vd.KDs.cons (Vd.kd_tup (by k_is) ⟨rfl, rfl⟩ (by repeat (first | exact .nil | refine .cons (by first | rfl | exact ⟨_, rfl⟩) ?_)) (by decide) (Vd.KDs.cons (Vd.kd_tup (by k_is) ⟨rfl, rfl⟩ (by repeat (first | exact .nil | refine .cons (by first | rfl | exact ⟨_, rfl⟩) ?_)) (by decide) (Vd.KDs.cons Vd.kd_int (Vd.KDs.cons Vd.kd_int Vd.KDs.nil))) (Vd.KDs.cons (Vd.kd_tup (by k_is) ⟨rfl, rfl⟩ (by repeat (first | exact .nil | refine .cons (by first | rfl | exact ⟨_, rfl⟩) ?_)) (by decide) (Vd.KDs.cons Vd.kd_int (Vd.KDs.cons Vd.kd_int Vd.KDs.nil))) Vd.KDs.nil))) (Vd.KDs.cons (Vd.kd_tup (by k_is) ⟨rfl, rfl⟩ (by repeat (first | exact .nil | refine .cons (by first | rfl | exact ⟨_, rfl⟩) ?_)) (by decide) (Vd.KDs.cons (Vd.kd_tup (by k_is) ⟨rfl, rfl⟩ (by repeat (first | exact .nil | refine .cons (by first | rfl | exact ⟨_, rfl⟩) ?_)) (by decide) (Vd.KDs.cons Vd.kd_int (Vd.KDs.cons Vd.kd_int Vd.KDs.nil))) (Vd.KDs.cons (Vd.kd_tup (by k_is) ⟨rfl, rfl⟩ (by repeat (first | exact .nil | refine .cons (by first | rfl | exact ⟨_, rfl⟩) ?_)) (by decide) (Vd.KDs.cons Vd.kd_int (Vd.KDs.cons Vd.kd_int Vd.KDs.nil))) Vd.KDs.nil))) (Vd.KDs.cons (Vd.kd_tup (by k_is) ⟨rfl, rfl⟩ (by repeat (first | exact .nil | refine .cons (by first | rfl | exact ⟨_, rfl⟩) ?_)) (by decide) (Vd.KDs.cons (Vd.kd_tup (by k_is) ⟨rfl, rfl⟩ (by repeat (first | exact .nil | refine .cons (by first | rfl | exact ⟨_, rfl⟩) ?_)) (by decide) (Vd.KDs.cons Vd.kd_int (Vd.KDs.cons Vd.kd_int Vd.KDs.nil))) (Vd.KDs.cons (Vd.kd_tup (by k_is) ⟨rfl, rfl⟩ (by repeat (first | exact .nil | refine .cons (by first | rfl | exact ⟨_, rfl⟩) ?_)) (by decide) (Vd.KDs.cons Vd.kd_int (Vd.KDs.cons Vd.kd_int Vd.KDs.nil))) Vd.KDs.nil))) (Vd.KDs.cons (Vd.kd_tup (by k_is) ⟨rfl, rfl⟩ (by repeat (first | exact .nil | refine .cons (by first | rfl | exact ⟨_, rfl⟩) ?_)) (by decide) (Vd.KDs.cons (Vd.kd_tup (by k_is) ⟨rfl, rfl⟩ (by repeat (first | exact .nil | refine .cons (by first | rfl | exact ⟨_, rfl⟩) ?_)) (by decide) (Vd.KDs.cons Vd.kd_int (Vd.KDs.cons Vd.kd_int Vd.KDs.nil))) (Vd.KDs.cons (Vd.kd_tup (by k_is) ⟨rfl, rfl⟩ (by repeat (first | exact .nil | refine .cons (by first | rfl | exact ⟨_, rfl⟩) ?_)) (by decide) (Vd.KDs.cons Vd.kd_int (Vd.KDs.cons Vd.kd_int Vd.KDs.nil))) Vd.KDs.nil))) Vd.KDs.nil))))))
    (case tof => first | kernel_rfl | rfl)
