import PyProof.Rows.All
import Wide.All
import OpenK.AllK
import Wide.FinOn
import HandS.ForMost
import HandS.ForExc
import HandS.AnyAll
import HandS.IsInst
import HandS.Conv
import HandS.Deep
import HandS.Wide
import HandS.TupAny
import HandS.SortInts
import HandS.FStr
import HandS.Style
import HandS.Flow
import HandS.Small
import KE.KSortedM
import HandS.More
import KE.KOwnCellsLaws
import HandS.Walk
import KE.KDictList
import HandS.GenList
import PyProof.AutoSeq1
import PyProof.Rows.MatchSeqLen
import PyProof.Rows.TupIter
import HandS.HeadHook2
import HandS.HeadHook3
import HandS.Dict
import HandS.Head2
import HandS.HeadWalk
import KE.KNestM
import PySem.Challenge.RW_sleepwalk_k03_boxes
set_option Elab.async false
set_option linter.all false
set_option maxRecDepth 100000
set_option maxHeartbeats 4000000
namespace R
open PySem PySem.Spec PyProof.Rows L2
abbrev D := PyData
def keyD : Key → D
  | .inl i => .int i
  | .inr x => .str x
/-! ### trees at values; O: the addresses that no mutable part may have -/
mutual
inductive Rp (K : PySem.W.Frag) (H : Hp) (O : Addr → Prop) : V → D → Prop
  | non : Rp K H O .non .none
  | bl (b : Bool) : Rp K H O (.bl b) (.bool b)
  | int (i : Int) : Rp K H O (.int i) (.int i)
  | str (x : Str) : Rp K H O (.str x) (.str x)
  | tup {a : Addr} {xs : List V} {ds : List D} : SqT K H a xs → RpA K H O xs ds → Rp K H O (.ref a) (.tuple ds)
  | lst {a : Addr} {xs : List V} {ds : List D} : Rd H a (.lst xs) → ¬ O a → RpA K H O xs ds → Rp K H O (.ref a) (.list ds)
  | dct {a : Addr} {kvs : List (Key × V)} {es : List (D × D)} : H a = some (.dK kvs) → ¬ O a → RpK K H O kvs es → Rp K H O (.ref a) (.dict es)
inductive RpA (K : PySem.W.Frag) (H : Hp) (O : Addr → Prop) : List V → List D → Prop
  | nil : RpA K H O [] []
  | cons {v : V} {vs : List V} {d : D} {ds : List D} : Rp K H O v d → RpA K H O vs ds → RpA K H O (v :: vs) (d :: ds)
inductive RpK (K : PySem.W.Frag) (H : Hp) (O : Addr → Prop) : List (Key × V) → List (D × D) → Prop
  | nil : RpK K H O [] []
  | cons {k : Key} {v : V} {kvs : List (Key × V)} {d : D} {es : List (D × D)} : Rp K H O v d → RpK K H O kvs es → RpK K H O ((k, v) :: kvs) ((keyD k, d) :: es)
end
/-- what stands stays, but what M tells and the tables -/
structure GrM (M : Addr → Prop) (H H' : Hp) : Prop where
  keep : ∀ a o, H a = some o → ¬ M a → (∀ ps, o ≠ .tbl ps) → H' a = some o
  tabs : ∀ P, GxR.TabG H P → GxR.TabG H' P
  there : ∀ a, H a ≠ none → H' a ≠ none
  tups : ∀ a xs, H a = some (.tup xs) → H' a = some (.tup xs)
  frzs : ∀ a o u, H a = some (.frz o u) → H' a = some (.frz o u)
  unfz : ∀ a o u, H' a = some (.frz o u) → H a = some (.frz o u)
abbrev Gr : Hp → Hp → Prop := GrM fun _ => False
variable {K : PySem.W.Frag} {H H1 H2 H3 : Hp} {O O' M : Addr → Prop}
theorem GrM.refl : GrM M H H := ⟨fun _ _ h _ _ => h, fun _ h => h, fun _ h => h, fun _ _ h => h, fun _ _ _ h => h, fun _ _ _ h => h⟩
theorem GrM.trans (a : GrM M H1 H2) (b : GrM M H2 H3) : GrM M H1 H3 :=
  ⟨fun x o h m t => b.keep x o (a.keep x o h m t) m t, fun P h => b.tabs P (a.tabs P h), fun x h => b.there x (a.there x h), fun x xs h => b.tups x xs (a.tups x xs h), fun x o u h => b.frzs x o u (a.frzs x o u h), fun x o u h => a.unfz x o u (b.unfz x o u h)⟩
theorem GrM.mono {M' : Addr → Prop} (a : GrM M H1 H2) (h : ∀ x, M x → M' x) : GrM M' H1 H2 :=
  ⟨fun x o e m t => a.keep x o e (fun z => m (h x z)) t, a.tabs, a.there, a.tups, a.frzs, a.unfz⟩
theorem Gr.any (a : Gr H1 H2) : GrM M H1 H2 := a.mono fun _ z => z.elim
theorem GrM.seqT (a : GrM M H1 H2) {x : Addr} {xs : List V} (h : SqT K H1 x xs) : SqT K H2 x xs := by
  rcases h with (h | ⟨o, h⟩) | h
  · exact .inl (.inl (a.tups _ _ h))
  · exact .inl (.inr ⟨o, a.frzs _ _ _ h⟩)
  · exact .inr h
theorem GrM.rd (a : GrM M H1 H2) {x : Addr} {u : HO} (h : Rd H1 x u) (hm : ¬ M x) (ht : ∀ ps, u ≠ .tbl ps) : Rd H2 x u := by
  rcases h with h | ⟨o, h⟩
  · exact .inl (a.keep _ _ h hm ht)
  · exact .inr ⟨o, a.keep _ _ h hm (fun ps z => by cases z)⟩
theorem GrM.seqL (a : GrM M H1 H2) {x : Addr} {xs : List V} (h : SqL K H1 x xs) (hm : ¬ M x) : SqL K H2 x xs := by
  rcases h with h | h
  · exact .inl (a.rd h hm (fun ps z => by cases z))
  · exact .inr h
theorem Gr.new {p : Addr} {o : HO} (h : H p = none) (hf : ∀ q z, o ≠ .frz q z := by intro _ _ z; cases z) : GrM M H (upd H p o) := by
  refine ⟨fun a u e _ _ => ?_, fun P ⟨ps, e, t⟩ => ⟨ps, ?_, t⟩, fun a e => ?_, fun a xs e => ?_, fun a q xs e => ?_, fun a q z e => ?_⟩
  · rw [upd_ne (ne_of_none e h)]; exact e
  · rw [upd_ne (ne_of_none e h)]; exact e
  · by_cases z : a = p
    · subst z; exact absurd h e
    · rw [upd_ne z]; exact e
  · rw [upd_ne (ne_of_none e h)]; exact e
  · rw [upd_ne (ne_of_none e h)]; exact e
  · by_cases y : a = p
    · rw [y, upd_same] at e; exact absurd (Option.some.inj e) (hf q z)
    · rw [upd_ne y] at e; exact e
/-- a change of what M tells: a list or a dict -/
theorem GrM.put {p : Addr} {o u : HO} (h : H p = some o) (hm : M p) (ht : ∀ xs, o ≠ .tup xs) (hb : ∀ ps, o ≠ .tbl ps) (hf : ∀ q z, o ≠ .frz q z) (hu : ∀ q z, u ≠ .frz q z := by intro _ _ z; cases z) : GrM M H (upd H p u) := by
  have ne : ∀ {a : Addr} {z : HO}, H a = some z → o ≠ z → a ≠ p := fun e d => (ne_of h e d).symm
  refine ⟨fun a z e m _ => ?_, fun P ⟨ps, e, t⟩ => ⟨ps, ?_, t⟩, fun a e => ?_, fun a xs e => ?_, fun a q z e => ?_, fun a q z e => ?_⟩
  · rw [upd_ne (fun q => m (by rw [q]; exact hm))]; exact e
  · rw [upd_ne (ne e (hb ps))]; exact e
  · by_cases z : a = p
    · subst z; rw [upd_same]; exact fun q => by cases q
    · rw [upd_ne z]; exact e
  · rw [upd_ne (ne e (ht xs))]; exact e
  · rw [upd_ne (ne e (hf q z))]; exact e
  · by_cases y : a = p
    · rw [y, upd_same] at e; exact absurd (Option.some.inj e) (hu q z)
    · rw [upd_ne y] at e; exact e
/-- writing what was not there before -/
theorem GrM.put_new {H0 : Hp} {p : Addr} {o u : HO} (g : GrM M H0 H) (n : H0 p = none) (h : H p = some o) (ht : ∀ xs, o ≠ .tup xs) (hb : ∀ ps, o ≠ .tbl ps) (hf : ∀ q z, o ≠ .frz q z) (hu : ∀ q z, u ≠ .frz q z := by intro _ _ z; cases z) : GrM M H0 (upd H p u) := by
  have k := GrM.put (M := fun a => a = p) (u := u) h rfl ht hb hf hu
  refine ⟨fun a z e m t => ?_, fun P t => k.tabs P (g.tabs P t), fun a e => k.there a (g.there a e), fun a xs e => k.tups a xs (g.tups a xs e), fun a q z e => k.frzs a q z (g.frzs a q z e), fun a q z e => g.unfz a q z (k.unfz a q z e)⟩
  exact k.keep a z (g.keep a z e m t) (fun q => by subst q; rw [n] at e; cases e) t
/-! ### a tree stays -/
/-- H' tells the same where O does not forbid; O' forbids no more of what is there -/
structure Keep (O O' : Addr → Prop) (K : PySem.W.Frag) (H H' : Hp) : Prop where
  less : ∀ a, O' a → ¬ O a → H a = none
  t : ∀ a xs, SqT K H a xs → SqT K H' a xs
  l : ∀ a xs, ¬ O a → Rd H a (.lst xs) → Rd H' a (.lst xs)
  d : ∀ a kvs, ¬ O a → H a = some (.dK kvs) → H' a = some (.dK kvs)
theorem rd_there {a : Addr} {u : HO} (h : Rd H a u) : H a ≠ none := by
  rcases h with h | ⟨o, h⟩ <;> rw [h] <;> exact fun z => by cases z
mutual
theorem Rp.keep (k : Keep O O' K H1 H2) : ∀ {v : V} {d : D}, Rp K H1 O v d → Rp K H2 O' v d
  | _, _, .non => .non
  | _, _, .bl b => .bl b
  | _, _, .int i => .int i
  | _, _, .str x => .str x
  | _, _, .tup h t => .tup (k.t _ _ h) (RpA.keep k t)
  | _, _, .lst h n t => .lst (k.l _ _ n h) (fun z => rd_there h (k.less _ z n)) (RpA.keep k t)
  | _, _, .dct h n t => .dct (k.d _ _ n h) (fun z => by
      have e := k.less _ z n
      rw [e] at h; cases h) (RpK.keep k t)
theorem RpA.keep (k : Keep O O' K H1 H2) : ∀ {vs : List V} {ds : List D}, RpA K H1 O vs ds → RpA K H2 O' vs ds
  | _, _, .nil => .nil
  | _, _, .cons h t => .cons (Rp.keep k h) (RpA.keep k t)
theorem RpK.keep (k : Keep O O' K H1 H2) : ∀ {vs : List (Key × V)} {ds : List (D × D)}, RpK K H1 O vs ds → RpK K H2 O' vs ds
  | _, _, .nil => .nil
  | _, _, .cons h t => .cons (Rp.keep k h) (RpK.keep k t)
end
/-- behind a change within M ⊆ O -/
theorem GrM.keeps (g : GrM M H1 H2) (m : ∀ a, M a → O a) (l : ∀ a, O' a → ¬ O a → H1 a = none) : Keep O O' K H1 H2 :=
  ⟨l, fun _ _ h => g.seqT h, fun _ _ n h => g.rd h (fun z => n (m _ z)) (fun _ z => by cases z), fun _ _ n h => g.keep _ _ h (fun z => n (m _ z)) (fun _ z => by cases z)⟩
theorem Gr.keeps (g : Gr H1 H2) : Keep O O K H1 H2 := GrM.keeps g (fun _ z => z.elim) (fun _ a b => absurd a b)
theorem Keep.weak (h : ∀ a, O' a → O a) : Keep O O' K H H := ⟨fun a x y => absurd (h a x) y, fun _ _ h => h, fun _ _ _ h => h, fun _ _ _ h => h⟩
/-- forbidding what is not there -/
theorem Keep.more (h : ∀ a, O' a → ¬ O a → H a = none) : Keep O O' K H H := ⟨h, fun _ _ h => h, fun _ _ _ h => h, fun _ _ _ h => h⟩
/-! ### trees without mutable parts -/
mutual
def noMut : D → Bool
  | .list _ => false
  | .dict _ => false
  | .tuple xs => noMutA xs
  | _ => true
def noMutA : List D → Bool
  | [] => true
  | x :: xs => noMut x && noMutA xs
end
mutual
theorem Rp.free : ∀ {v : V} {d : D}, Rp K H O v d → noMut d = true → Rp K H O' v d
  | _, _, .non, _ => .non
  | _, _, .bl b, _ => .bl b
  | _, _, .int i, _ => .int i
  | _, _, .str x, _ => .str x
  | _, _, .tup h t, e => .tup h (RpA.free t (by simpa only [noMut] using e))
  | _, _, .lst h n t, e => by simp [noMut] at e
  | _, _, .dct h n t, e => by simp [noMut] at e
theorem RpA.free : ∀ {vs : List V} {ds : List D}, RpA K H O vs ds → noMutA ds = true → RpA K H O' vs ds
  | _, _, .nil, _ => .nil
  | _, _, .cons h t, e => by
    rw [noMutA, Bool.and_eq_true] at e
    exact .cons (Rp.free h e.1) (RpA.free t e.2)
end
def noMutK : List (D × D) → Bool
  | [] => true
  | x :: xs => noMut x.2 && noMutK xs
theorem RpK.free : ∀ {vs : List (Key × V)} {ds : List (D × D)}, RpK K H O vs ds → noMutK ds = true → RpK K H O' vs ds
  | _, _, .nil, _ => .nil
  | _, _, .cons h t, e => by
    rw [noMutK, Bool.and_eq_true] at e
    exact .cons (Rp.free h e.1) (RpK.free t e.2)
/-! ### a list or a dict that one holds alone -/
inductive OwAt (K : PySem.W.Frag) (H : Hp) (O : Addr → Prop) (a : Addr) : D → Prop
  | lst {xs : List V} {ds : List D} : H a = some (.lst xs) → RpA K H O xs ds → OwAt K H O a (.list ds)
  | dct {kvs : List (Key × V)} {es : List (D × D)} : H a = some (.dK kvs) → RpK K H O kvs es → OwAt K H O a (.dict es)
theorem OwAt.rp {a : Addr} {d : D} (h : OwAt K H O a d) (k : Keep O O' K H H) (n : ¬ O' a) : Rp K H O' (.ref a) d := by
  cases h with
  | lst e r => exact .lst (.inl e) n (r.keep k)
  | dct e r => exact .dct e n (r.keep k)
theorem OwAt.keep {a : Addr} {d : D} (h : OwAt K H1 O a d) (k : Keep O O' K H1 H2) (e1 : ∀ o, H1 a = some o → (∀ ps, o ≠ .tbl ps) → H2 a = some o) : OwAt K H2 O' a d := by
  cases h with
  | lst e r => exact .lst (e1 _ e (fun _ z => by cases z)) (r.keep k)
  | dct e r => exact .dct (e1 _ e (fun _ z => by cases z)) (r.keep k)
theorem OwAt.there {a : Addr} {d : D} (h : OwAt K H O a d) : H a ≠ none := by
  cases h with
  | lst e r => rw [e]; exact fun z => by cases z
  | dct e r => rw [e]; exact fun z => by cases z
theorem RpA.length : ∀ {vs : List V} {ds : List D}, RpA K H O vs ds → vs.length = ds.length
  | _, _, .nil => rfl
  | _, _, .cons _ t => by simp [RpA.length t]
theorem RpA.get : ∀ {vs : List V} {ds : List D} {i : Nat} {d : D}, RpA K H O vs ds → ds[i]? = some d → ∃ v, vs[i]? = some v ∧ Rp K H O v d
  | _, _, _, _, .nil, e => by simp at e
  | _, _, 0, _, .cons h _, e => by simp at e; subst e; exact ⟨_, rfl, h⟩
  | _, _, i + 1, _, .cons _ t, e => by
    obtain ⟨v, a, b⟩ := RpA.get (i := i) t (by simpa using e)
    exact ⟨v, by simpa using a, b⟩
theorem RpA.getV : ∀ {vs : List V} {ds : List D} {i : Nat} {v : V}, RpA K H O vs ds → vs[i]? = some v → ∃ d, ds[i]? = some d ∧ Rp K H O v d
  | _, _, _, _, .nil, e => by simp at e
  | _, _, 0, _, .cons h _, e => by simp at e; subst e; exact ⟨_, rfl, h⟩
  | _, _, i + 1, _, .cons _ t, e => by
    obtain ⟨v, a, b⟩ := RpA.getV (i := i) t (by simpa using e)
    exact ⟨v, by simpa using a, b⟩
theorem RpA.append : ∀ {vs ws : List V} {ds es : List D}, RpA K H O vs ds → RpA K H O ws es → RpA K H O (vs ++ ws) (ds ++ es)
  | _, _, _, _, .nil, s => s
  | _, _, _, _, .cons h t, s => .cons h (RpA.append t s)
theorem RpA.take : ∀ {vs : List V} {ds : List D} (n : Nat), RpA K H O vs ds → RpA K H O (vs.take n) (ds.take n)
  | _, _, 0, _ => .nil
  | _, _, _ + 1, .nil => .nil
  | _, _, n + 1, .cons h t => .cons h (RpA.take n t)
theorem RpA.drop : ∀ {vs : List V} {ds : List D} (n : Nat), RpA K H O vs ds → RpA K H O (vs.drop n) (ds.drop n)
  | _, _, 0, h => h
  | _, _, _ + 1, .nil => .nil
  | _, _, n + 1, .cons _ t => RpA.drop n t
theorem RpA.set : ∀ {vs : List V} {ds : List D} (n : Nat) {v : V} {d : D}, Rp K H O v d → RpA K H O vs ds → RpA K H O (vs.set n v) (ds.set n d)
  | _, _, _, _, _, _, .nil => .nil
  | _, _, 0, _, _, r, .cons _ t => .cons r t
  | _, _, n + 1, _, _, r, .cons h t => .cons h (RpA.set n r t)
theorem RpA.reverse : ∀ {vs : List V} {ds : List D}, RpA K H O vs ds → RpA K H O vs.reverse ds.reverse
  | _, _, .nil => .nil
  | _, _, .cons h t => by
    rw [List.reverse_cons, List.reverse_cons]
    exact (RpA.reverse t).append (.cons h .nil)
end R
namespace R
open PySem PySem.Spec PyProof.Rows L2
/-! ### the pieces of a program -/
mutual
inductive X where
  | v (i : Nat)
  | k (d : D)
  | g (n : Str)
  | neg (a : X)
  | tup (es : XL)
  | lst (es : XL)
  | dnew
  | bin (o : Operator) (a b : X)
  | cmp (o : CmpOp) (a b : X)
  | ch (o o' : CmpOp) (a b c : X)
  | and (a b : X)
  | or (a b : X)
  | not (a : X)
  | ife (c a b : X)
  | call (f : Str) (es : XL)
  | bf (f : Str) (es : XL)
  | isi (a : X) (ts : List Str) (alone : Bool)
  | ix (a b : X)
  | sl (a : X) (lo hi : XO)
  | lc (i : Nat) (src : XS) (c : XO) (e : X)
  | ge (q : Str) (i : Nat) (ws : List Nat) (src : XS) (e : X)
  | vals (a : X)
  | me (m : Str) (a : X) (es : XL)
inductive XL where
  | nil
  | cons (e : X) (es : XL)
inductive XO where
  | no
  | so (e : X)
inductive XS where
  | l (e : X)
  | r (e : X)
end
/-- a value's kind: its top part is new and held alone; its mutable parts are new -/
structure Kd where
  own : Bool
  fr : Bool
  deriving DecidableEq
abbrev Ex (α : Type) := Option (Except Str α)
@[reducible] def bnd {α β : Type} (r : Ex α) (f : α → Ex β) : Ex β := match r with
  | none => none
  | some (.error c) => some (.error c)
  | some (.ok a) => f a
@[reducible] def ok {α : Type} (a : α) : Ex α := some (.ok a)
def lift {α : Type} (o : Option α) : Ex α := match o with
  | none => none
  | some a => some (.ok a)
abbrev Rs := Ex (Kd × D)
/-- a slot: nothing, a tree that may be shared, a list or a dict held by this slot alone (nw: made here) -/
inductive Slot where
  | no
  | sh (f : Bool) (d : D)
  | ow (nw f : Bool) (d : D)
abbrev Env1 := List Slot
structure FSpec where
  n : Nat
  mu : List Nat
  kd : Kd
  F : List D → Ex (D × List D)
structure FT where
  fn : Str → Option FSpec
  gl : Str → Option D
  /-- generator expressions may be made -/
  ge : Bool
/-! ### operations on trees -/
def smallI (i : Int) : Bool := decide (-(2 ^ 64) < i ∧ i < 2 ^ 64)
def mulOk (i j : Int) : Bool := smallI i || (smallI j || (decide (i.natAbs < 2 ^ 4000) && decide (j.natAbs < 2 ^ 4000)))
def lenOk (n : Nat) : Bool := decide (n ≤ 1000000)
def sc (d : D) : Kd × D := (⟨false, true⟩, d)
def isSc : D → Bool
  | .list _ => false
  | .tuple _ => false
  | .dict _ => false
  | _ => true
def binE : Operator → (Bool × D) → (Bool × D) → Option (Kd × D)
  | .Add, (_, .int i), (_, .int j) => some (sc (.int (i + j)))
  | .Sub, (_, .int i), (_, .int j) => some (sc (.int (i - j)))
  | .Mult, (_, .int i), (_, .int j) => if mulOk i j then some (sc (.int (i * j))) else none
  | .FloorDiv, (_, .int i), (_, .int j) => if decide (0 < j ∧ j < 1073741824) then some (sc (.int (i / j))) else none
  | .Mod, (_, .int i), (_, .int j) => if decide (0 < j) then some (sc (.int (i % j))) else none
  | .Pow, (_, .int i), (_, .int j) => if decide (0 ≤ j ∧ j ≤ 1000000 ∧ i.natAbs < 2 ^ 64) then some (sc (.int (i ^ j.toNat))) else none
  | .Add, (_, .str x), (_, .str y) => if lenOk (x.length + y.length) then some (sc (.str (x ++ y))) else none
  | .Add, (f, .tuple xs), (g, .tuple ys) => if lenOk (xs.length + ys.length) then some (⟨false, f && g⟩, .tuple (xs ++ ys)) else none
  | .Add, (f, .list xs), (g, .list ys) => if lenOk (xs.length + ys.length) then some (⟨true, f && g⟩, .list (xs ++ ys)) else none
  | _, _, _ => none
def shapedB (d : D) : Bool := SeqAt.shaped d
def memFlat (d : D) (xs : List D) : Bool := xs.any fun z => PyData.eqv z d
def keyOf : D → Option Key
  | .int i => some (.inl i)
  | .str x => some (.inr x)
  | _ => none
def dgetE (es : List (D × D)) (k : Key) : Option D := (es.find? fun e => decide (keyOf e.1 = some k)).map (·.2)
def dputE (es : List (D × D)) (k : Key) (d : D) : List (D × D) :=
  if (es.any fun e => decide (keyOf e.1 = some k)) = true then es.map (fun e => if keyOf e.1 = some k then (e.1, d) else e) else es ++ [(keyD k, d)]
def cmpE : CmpOp → (Bool × D) → (Bool × D) → Option Bool
  | .Lt, (_, .int i), (_, .int j) => some (decide (i < j))
  | .LtE, (_, .int i), (_, .int j) => some (decide (i ≤ j))
  | .Gt, (_, .int i), (_, .int j) => some (decide (j < i))
  | .GtE, (_, .int i), (_, .int j) => some (decide (j ≤ i))
  | .Eq, (_, d), (_, e) => if shapedB d && shapedB e then some (PyData.eqv d e) else none
  | .NotEq, (_, d), (_, e) => if shapedB d && shapedB e then some (!PyData.eqv d e) else none
  | .Is, (_, d), (_, .none) => some (match d with | .none => true | _ => false)
  | .IsNot, (_, d), (_, .none) => some (match d with | .none => false | _ => true)
  | .Is, (_, .bool a), (_, .bool b) => some (decide (a = b))
  | .IsNot, (_, .bool a), (_, .bool b) => some (!decide (a = b))
  | .In, (_, d), (_, .dict es) => (keyOf d).map fun k => (dgetE es k).isSome
  | .NotIn, (_, d), (_, .dict es) => (keyOf d).map fun k => !(dgetE es k).isSome
  | .In, (_, d), (_, .tuple xs) => if isSc d && xs.all isSc then some (memFlat d xs) else none
  | .NotIn, (_, d), (_, .tuple xs) => if isSc d && xs.all isSc then some (!memFlat d xs) else none
  | .In, (_, d), (_, .list xs) => if isSc d && xs.all isSc then some (memFlat d xs) else none
  | .NotIn, (_, d), (_, .list xs) => if isSc d && xs.all isSc then some (!memFlat d xs) else none
  | _, _, _ => none
def truthE : D → Option Bool
  | .none => some false
  | .bool b => some b
  | .int i => some (i != 0)
  | .str x => if lenOk x.length then some (x.length != 0) else none
  | .list xs => some (!xs.isEmpty)
  | .tuple xs => some (!xs.isEmpty)
  | .dict es => some (!es.isEmpty)
def tyN : D → String
  | .none => "NoneType"
  | .bool _ => "bool"
  | .int _ => "int"
  | .str _ => "str"
  | .list _ => "list"
  | .tuple _ => "tuple"
  | .dict _ => "dict"
def isiN (t : String) (c : Str) : Option Bool := if c = "int" then some (t == "int" || t == "bool") else if c = "bool" then some (t == "bool")
  else if c = "str" then some (t == "str") else if c = "tuple" then some (t == "tuple") else if c = "list" then some (t == "list") else if c = "dict" then some (t == "dict") else none
def isiE (d : D) : List Str → Option Bool
  | [] => some false
  | c :: cs => (isiN (tyN d) c).bind fun b => if b then some true else isiE d cs
def bools : List D → Option (List Bool)
  | [] => some []
  | .bool b :: r => (bools r).map (b :: ·)
  | _ => none
def intsD : List D → Option (List Int)
  | [] => some []
  | .int b :: r => (intsD r).map (b :: ·)
  | _ => none
def sortI (ns : List Int) : List Int := ns.mergeSort fun a b => decide (a ≤ b)
def maxI : List Int → Option Int
  | [] => none
  | x :: xs => some (xs.foldl (fun a b => if b > a then b else a) x)
/-- f(..), f a built-in -/
def bfE (f : Str) (es : List (Bool × D)) : Option (Kd × D) :=
  if f = "len" then match es with
    | [(_, .list xs)] => some (sc (.int xs.length))
    | [(_, .tuple xs)] => some (sc (.int xs.length))
    | [(_, .dict xs)] => some (sc (.int xs.length))
    | [(_, .str x)] => if lenOk x.length then some (sc (.int x.length)) else none
    | _ => none
  else if f = "abs" then match es with
    | [(_, .int i)] => some (sc (.int (if i < 0 then -i else i)))
    | _ => none
  else if f = "max" then match es with
    | [(_, .int i), (_, .int j)] => some (sc (.int (if j > i then j else i)))
    | [(_, .list xs)] => ((intsD xs).bind maxI).map fun m => sc (.int m)
    | _ => none
  else if f = "min" then match es with
    | [(_, .int i), (_, .int j)] => some (sc (.int (if j < i then j else i)))
    | _ => none
  else if f = "int" then match es with
    | [(_, .int i)] => some (sc (.int i))
    | [(_, .bool b)] => some (sc (.int (if b then 1 else 0)))
    | _ => none
  else if f = "str" then match es with
    | [(_, .int i)] => if decide (i.natAbs.log2 < 1920) then some (sc (.str (toString i))) else none
    | _ => none
  else if f = "list" then match es with
    | [(f, .list xs)] => some (⟨true, f⟩, .list xs)
    | [(f, .tuple xs)] => some (⟨true, f⟩, .list xs)
    | [(_, .dict xs)] => some (⟨true, true⟩, .list (xs.map (·.1)))
    | _ => none
  else if f = "tuple" then match es with
    | [(f, .list xs)] => some (⟨false, f⟩, .tuple xs)
    | [(f, .tuple xs)] => some (⟨false, f⟩, .tuple xs)
    | _ => none
  else if f = "dict" then match es with
    | [(f, .dict xs)] => some (⟨true, f⟩, .dict xs)
    | _ => none
  else if f = "all" then match es with
    | [(_, .list xs)] => (bools xs).map fun bs => sc (.bool (bs.all id))
    | _ => none
  else if f = "any" then match es with
    | [(_, .list xs)] => (bools xs).map fun bs => sc (.bool (bs.any id))
    | _ => none
  else if f = "sorted" then match es with
    | [(_, .list xs)] => (intsD xs).map fun ns => (⟨true, true⟩, .list ((sortI ns).map .int))
    | _ => none
  else none
def ixE : (Bool × D) → (Bool × D) → Option (Kd × D)
  | (f, .list xs), (_, .int i) => (atI xs i).map fun d => (⟨false, f⟩, d)
  | (f, .tuple xs), (_, .int i) => (atI xs i).map fun d => (⟨false, f⟩, d)
  | (f, .dict es), (_, d) => (keyOf d).bind fun k => (dgetE es k).map fun d => (⟨false, f⟩, d)
  | _, _ => none
def cutD (xs : List D) (lo hi : Option Int) : List D := (xs.drop (HT.sIx xs.length 0 lo)).take (HT.sIx xs.length xs.length hi - HT.sIx xs.length 0 lo)
def slE : (Bool × D) → Option Int → Option Int → Option (Kd × D)
  | (f, .list xs), lo, hi => some (⟨true, f⟩, .list (cutD xs lo hi))
  | (f, .tuple xs), lo, hi => some (⟨false, f⟩, .tuple (cutD xs lo hi))
  | _, _, _ => none
/-- what is walked -/
def itemsE : D → Option (List D)
  | .list xs => some xs
  | .tuple xs => some xs
  | _ => none
def rangeE : D → Option (List D)
  | .int i => if decide (-(2 ^ 62) ≤ i ∧ i < 2 ^ 62) then some ((List.range i.toNat).map fun j => .int (j : Nat)) else none
  | _ => none
def lcGo (c : D → Ex Bool) (f : D → Rs) : List D → Ex (Bool × List D)
  | [] => ok (true, [])
  | d :: ds => bnd (c d) fun b => if b = true then bnd (f d) fun r => bnd (lcGo c f ds) fun q => ok (r.1.fr && q.1, r.2 :: q.2) else lcGo c f ds
def geGo (f : D → Rs) : List D → Ex (List (Kd × D))
  | [] => ok []
  | d :: ds => bnd (f d) fun r => bnd (geGo f ds) fun q => ok (r :: q)
def hideE (env : Env1) : List Nat → Env1
  | [] => env
  | w :: ws => (hideE env ws).set w Slot.no
def noErr {α : Type} : Ex α → Ex α
  | some (.ok a) => some (.ok a)
  | _ => none
def geE (q : Str) (es : List D) : Option (Kd × D) :=
  if q = "all" then (bools es).map fun bs => sc (.bool (bs.all id))
  else if q = "any" then (bools es).map fun bs => sc (.bool (bs.any id))
  else none
/-- o.m(..) that changes nothing -/
def meE (m : Str) (o : Bool × D) (es : List (Bool × D)) : Option (Kd × D) :=
  if m = "get" then match o, es with
    | (f, .dict kvs), [(_, d)] => (keyOf d).map fun k => match dgetE kvs k with
        | some e => (⟨false, f⟩, e)
        | none => sc .none
    | (f, .dict kvs), [(_, d), (g, x)] => (keyOf d).map fun k => match dgetE kvs k with
        | some e => (⟨false, f⟩, e)
        | none => (⟨false, g⟩, x)
    | _, _ => none
  else none
/-! ### what is new, and holds nothing that may change -/
def noMutI : D → Bool
  | .list xs => noMutA xs
  | .dict es => noMutK es
  | _ => true
def upK (q : Kd × D) : Kd × D := if q.1.own = true then (⟨true, q.1.fr || noMutI q.2⟩, q.2) else q
/-! ### slots -/
def slotV : Option Slot → Option (Kd × D)
  | some (.sh f d) => some (⟨false, f || noMut d⟩, d)
  | _ => none
/-- to be read only -/
def slotB : Option Slot → Option (Bool × D)
  | some (.sh f d) => some (f || noMut d, d)
  | some (.ow _ f d) => some (f, d)
  | _ => none
/-! ### evaluation -/
def toB (r : Rs) : Ex (Bool × D) := bnd r fun q => ok (q.1.fr, q.2)
/-- to be read only -/
def brw (env : Env1) (x : X) (r : Rs) : Ex (Bool × D) := match x with
  | .v i => lift (slotB env[i]?)
  | _ => toB r
def trE (r : Ex (Bool × D)) : Ex Bool := bnd r fun q => lift (truthE q.2)
mutual
def evE (ft : FT) : X → Env1 → Rs
  | .v i, env => lift (slotV env[i]?)
  | .k d, _ => if isSc d then ok (sc d) else none
  | .g n, _ => lift ((ft.gl n).map fun d => (⟨false, true⟩, d))
  | .neg a, env => bnd (evE ft a env) fun r => match r.2 with
      | .int i => ok (sc (.int (-i)))
      | _ => none
  | .tup es, env => bnd (evL ft es env) fun q => if lenOk q.2.length then ok (⟨false, q.1⟩, .tuple q.2) else none
  | .lst es, env => bnd (evL ft es env) fun q => if lenOk q.2.length then ok (⟨true, q.1⟩, .list q.2) else none
  | .dnew, _ => ok (⟨true, true⟩, .dict [])
  | .bin o a b, env => bnd (brw env a (evE ft a env)) fun x => bnd (brw env b (evE ft b env)) fun y => lift (binE o x y)
  | .cmp o a b, env => bnd (brw env a (evE ft a env)) fun x => bnd (brw env b (evE ft b env)) fun y => lift ((cmpE o x y).map fun b => sc (.bool b))
  | .ch o o' a b c, env => bnd (brw env a (evE ft a env)) fun x => bnd (brw env b (evE ft b env)) fun y => bnd (lift (cmpE o x y)) fun t =>
      if t = true then bnd (brw env c (evE ft c env)) fun z => lift ((cmpE o' y z).map fun b => sc (.bool b)) else ok (sc (.bool false))
  | .and a b, env => bnd (evE ft a env) fun r => match r.2 with
      | .bool t => if t = true then evE ft b env else ok (sc (.bool false))
      | _ => none
  | .or a b, env => bnd (evE ft a env) fun r => match r.2 with
      | .bool t => if t = true then ok (sc (.bool true)) else evE ft b env
      | _ => none
  | .not a, env => bnd (trE (brw env a (evE ft a env))) fun b => ok (sc (.bool (!b)))
  | .ife c a b, env => bnd (trE (brw env c (evE ft c env))) fun t => if t = true then evE ft a env else evE ft b env
  | .call f es, env => match ft.fn f with
      | some s => if s.kd.fr = true then bnd (evBL ft es env) fun q => if s.mu = [] ∧ q.length = s.n then bnd (s.F (q.map (·.2))) fun r => ok (⟨s.kd.own, s.kd.fr || noMut r.1⟩, r.1) else none
        else bnd (evL ft es env) fun q => if s.mu = [] ∧ q.2.length = s.n then bnd (s.F q.2) fun r => ok (⟨s.kd.own, s.kd.fr || noMut r.1⟩, r.1) else none
      | none => none
  | .bf f es, env => bnd (evBL ft es env) fun q => lift ((bfE f q).map upK)
  | .isi a ts _, env => bnd (brw env a (evE ft a env)) fun x => lift ((isiE x.2 ts).map fun b => sc (.bool b))
  | .ix a b, env => bnd (brw env a (evE ft a env)) fun x => bnd (brw env b (evE ft b env)) fun y => lift (ixE x y)
  | .sl a lo hi, env => bnd (brw env a (evE ft a env)) fun x => bnd (evO ft lo env) fun l => bnd (evO ft hi env) fun h => lift ((slE x l h).map upK)
  | .lc i src c e, env => bnd (evS ft src env) fun q => if i < env.length ∧ lenOk q.2.length then
      bnd (noErr (lcGo (fun d => evC ft c (env.set i (.sh q.1 d))) (fun d => evE ft e (env.set i (.sh q.1 d))) q.2)) fun r => ok (⟨true, r.1⟩, .list r.2) else none
  | .ge q i ws src e, env => if ft.ge = true then bnd (evS ft src env) fun s => if i < env.length then
      bnd (noErr (geGo (fun d => evE ft e ((hideE env ws).set i (.sh s.1 d))) s.2)) fun r => lift (geE q (r.map (·.2))) else none else none
  | .vals a, env => bnd (brw env a (evE ft a env)) fun x => match x.2 with
      | .dict es => ok (⟨true, x.1⟩, .list (es.map (·.2)))
      | _ => none
  | .me m a es, env => bnd (brw env a (evE ft a env)) fun x => bnd (evBL ft es env) fun q => lift (meE m x q)
  termination_by structural x => x
def evL (ft : FT) : XL → Env1 → Ex (Bool × List D)
  | .nil, _ => ok (true, [])
  | .cons e es, env => bnd (evE ft e env) fun r => bnd (evL ft es env) fun q => ok (r.1.fr && q.1, r.2 :: q.2)
  termination_by structural x => x
def evBL (ft : FT) : XL → Env1 → Ex (List (Bool × D))
  | .nil, _ => ok []
  | .cons e es, env => bnd (brw env e (evE ft e env)) fun r => bnd (evBL ft es env) fun q => ok (r :: q)
  termination_by structural x => x
def evO (ft : FT) : XO → Env1 → Ex (Option Int)
  | .no, _ => ok none
  | .so e, env => bnd (evE ft e env) fun r => match r.2 with
      | .int i => ok (some i)
      | _ => none
  termination_by structural x => x
def evC (ft : FT) : XO → Env1 → Ex Bool
  | .no, _ => ok true
  | .so e, env => trE (brw env e (evE ft e env))
  termination_by structural x => x
def evS (ft : FT) : XS → Env1 → Ex (Bool × List D)
  | .r a, env => bnd (evE ft a env) fun r => bnd (lift (rangeE r.2)) fun l => ok (true, l)
  | .l e, env => bnd (brw env e (evE ft e env)) fun q => bnd (lift (itemsE q.2)) fun l => ok (q.1, l)
  termination_by structural x => x
end
def evB (ft : FT) (x : X) (env : Env1) : Ex (Bool × D) := brw env x (evE ft x env)
def evT (ft : FT) (x : X) (env : Env1) : Ex Bool := trE (evB ft x env)
end R
namespace R
open PySem PySem.Spec PyProof.Rows L2
variable {K : PySem.W.Frag} {H H1 H2 H3 : Hp} {O O' M : Addr → Prop} {Fb : Bool → Addr → Prop}
structure FbOk (H : Hp) (Fb : Bool → Addr → Prop) : Prop where
  sub : ∀ a, Fb false a → Fb true a
  tr : ∀ a, Fb true a → H a ≠ none
theorem FbOk.up (h : FbOk H Fb) {f g : Bool} (e : f = true → g = true) : ∀ a, Fb f a → Fb g a := by
  intro a x
  cases f with
  | false => cases g with
    | false => exact x
    | true => exact h.sub a x
  | true => rw [e rfl]; exact x
theorem FbOk.at (h : FbOk H Fb) (f : Bool) : ∀ a, Fb f a → H a ≠ none := by
  intro a x
  cases f with
  | false => exact h.tr a (h.sub a x)
  | true => exact h.tr a x
theorem FbOk.gr (h : FbOk H1 Fb) (g : GrM M H1 H2) : FbOk H2 Fb := ⟨h.sub, fun a x => g.there a (h.tr a x)⟩
theorem Rp.less (h : ∀ a, O' a → O a) {v : V} {d : D} (r : Rp K H O v d) : Rp K H O' v d := r.keep (Keep.weak h)
theorem RpA.less (h : ∀ a, O' a → O a) {v : List V} {d : List D} (r : RpA K H O v d) : RpA K H O' v d := r.keep (Keep.weak h)
theorem RpK.less (h : ∀ a, O' a → O a) {v : List (Key × V)} {d : List (D × D)} (r : RpK K H O v d) : RpK K H O' v d := r.keep (Keep.weak h)
theorem Rp.gr {v : V} {d : D} (r : Rp K H1 O v d) (g : Gr H1 H2) : Rp K H2 O v d := r.keep g.keeps
theorem RpA.gr {v : List V} {d : List D} (r : RpA K H1 O v d) (g : Gr H1 H2) : RpA K H2 O v d := r.keep g.keeps
theorem RpK.gr {v : List (Key × V)} {d : List (D × D)} (r : RpK K H1 O v d) (g : Gr H1 H2) : RpK K H2 O v d := r.keep g.keeps
theorem OwAt.gr {a : Addr} {d : D} (r : OwAt K H1 O a d) (g : Gr H1 H2) : OwAt K H2 O a d := r.keep g.keeps fun o e t => g.keep a o e id t
theorem OwAt.less {a : Addr} {d : D} (r : OwAt K H O a d) (h : ∀ b, O' b → O b) : OwAt K H O' a d := r.keep (Keep.weak h) fun o e _ => e
/-- to be read only -/
inductive Bw (K : PySem.W.Frag) (H : Hp) (O : Addr → Prop) : V → D → Prop
  | sh {v : V} {d : D} : Rp K H O v d → Bw K H O v d
  | ow {a : Addr} {d : D} : OwAt K H O a d → Bw K H O (.ref a) d
theorem Bw.gr {v : V} {d : D} (r : Bw K H1 O v d) (g : Gr H1 H2) : Bw K H2 O v d := by
  cases r with
  | sh r => exact .sh (r.gr g)
  | ow r => exact .ow (r.gr g)
theorem Bw.list {v : V} {ds : List D} (r : Bw K H O v (.list ds)) : ∃ a xs, v = .ref a ∧ Rd H a (.lst xs) ∧ RpA K H O xs ds := by
  cases r with
  | sh r => cases r with | lst h n t => exact ⟨_, _, rfl, h, t⟩
  | ow r => cases r with | lst h t => exact ⟨_, _, rfl, .inl h, t⟩
theorem Bw.tuple {v : V} {ds : List D} (r : Bw K H O v (.tuple ds)) : ∃ a xs, v = .ref a ∧ SqT K H a xs ∧ RpA K H O xs ds := by
  cases r with
  | sh r => cases r with | tup h t => exact ⟨_, _, rfl, h, t⟩
  | ow r => cases r
theorem Bw.dict {v : V} {es : List (D × D)} (r : Bw K H O v (.dict es)) : ∃ a kvs, v = .ref a ∧ H a = some (.dK kvs) ∧ RpK K H O kvs es := by
  cases r with
  | sh r => cases r with | dct h n t => exact ⟨_, _, rfl, h, t⟩
  | ow r => cases r with | dct h t => exact ⟨_, _, rfl, h, t⟩
theorem Bw.int {v : V} {i : Int} (r : Bw K H O v (.int i)) : v = .int i := by
  cases r with
  | sh r => cases r; rfl
  | ow r => cases r
theorem Bw.str {v : V} {i : Str} (r : Bw K H O v (.str i)) : v = .str i := by
  cases r with
  | sh r => cases r; rfl
  | ow r => cases r
theorem Bw.bool {v : V} {i : Bool} (r : Bw K H O v (.bool i)) : v = .bl i := by
  cases r with
  | sh r => cases r; rfl
  | ow r => cases r
theorem Bw.none {v : V} (r : Bw K H O v .none) : v = .non := by
  cases r with
  | sh r => cases r; rfl
  | ow r => cases r
mutual
theorem Rp.dp : ∀ {v : V} {d : D}, Rp K H O v d → d.canLay0 = true → Dp K H v d
  | _, _, .non, _ => .non
  | _, _, .bl b, _ => .bl b
  | _, _, .int i, _ => .int i
  | _, _, .str x, _ => .str x
  | _, _, .tup h t, e => .tup h (RpA.dp t (by simpa only [PyData.canLay0] using e))
  | _, _, .lst h n t, e => .lst (.inl h) (RpA.dp t (by simpa only [PyData.canLay0] using e))
  | _, _, .dct h n t, e => by simp [PyData.canLay0] at e
theorem RpA.dp : ∀ {vs : List V} {ds : List D}, RpA K H O vs ds → PyData.canLayAll0 ds = true → DpAll K H vs ds
  | _, _, .nil, _ => .nil
  | _, _, .cons h t, e => by
    rw [PyData.canLayAll0, Bool.and_eq_true] at e
    exact .cons (Rp.dp h e.1) (RpA.dp t e.2)
end
theorem Bw.dp {v : V} {d : D} (r : Bw K H O v d) (e : SeqAt.shaped d = true) : Dp K H v d := by
  have c := SeqAt.canLay_of_shaped e
  cases r with
  | sh r => exact r.dp c
  | ow r => cases r with
    | lst h t => exact .lst (.inl (.inl h)) (t.dp (by simpa only [PyData.canLay0] using c))
    | dct h t => simp [PyData.canLay0] at c
/-- a value that has come -/
def VR (K : PySem.W.Frag) (Fb : Bool → Addr → Prop) (H1 H2 : Hp) (k : Kd) (v : V) (d : D) : Prop :=
  Rp K H2 (Fb k.fr) v d ∧ (k.own = true → ∃ a, v = .ref a ∧ H1 a = none ∧ OwAt K H2 (fun b => Fb k.fr b ∨ b = a) a d)
theorem VR.back {k : Kd} {v : V} {d : D} (h : VR K Fb H2 H3 k v d) (g : GrM M H1 H2) : VR K Fb H1 H3 k v d :=
  ⟨h.1, fun e => let ⟨a, e1, n, o⟩ := h.2 e; ⟨a, e1, by
    cases z : H1 a with
    | none => rfl
    | some u => exact absurd n (g.there a (by rw [z]; exact fun q => by cases q)), o⟩⟩
theorem VR.fwd {k : Kd} {v : V} {d : D} (h : VR K Fb H1 H2 k v d) (g : Gr H2 H3) : VR K Fb H1 H3 k v d :=
  ⟨h.1.gr g, fun e => let ⟨a, e1, n, o⟩ := h.2 e; ⟨a, e1, n, o.gr g⟩⟩
theorem VR.sc {v : V} {d : D} {f : Bool} (h : Rp K H2 (Fb f) v d) (e : noMut d = true) : VR K Fb H1 H2 ⟨false, true⟩ v d := ⟨h.free e, fun z => by cases z⟩
theorem VR.al {v : V} {d : D} {f : Bool} (h : Rp K H2 (Fb f) v d) : VR K Fb H1 H2 ⟨false, f⟩ v d := ⟨h, fun z => by cases z⟩
theorem VR.alm {v : V} {d : D} {f : Bool} (h : Rp K H2 (Fb f) v d) : VR K Fb H1 H2 ⟨false, f || noMut d⟩ v d := by
  refine ⟨?_, fun z => by cases z⟩
  cases e : noMut d with
  | true => exact h.free e
  | false => rw [Bool.or_false]; exact h
theorem VR.bw {k : Kd} {v : V} {d : D} (h : VR K Fb H1 H2 k v d) : Bw K H2 (Fb k.fr) v d := .sh h.1
/-- a new list, a new dict, a new tuple -/
theorem VR.lst {p : Addr} {xs : List V} {ds : List D} {f : Bool} (fb : FbOk H Fb) (n : H p = none) (r : RpA K H (Fb f) xs ds) : VR K Fb H (upd H p (.lst xs)) ⟨true, f⟩ (.ref p) (.list ds) := by
  have g : Gr H (upd H p (.lst xs)) := Gr.new n
  refine ⟨.lst (.inl upd_same) (fun z => fb.at f p z n) (r.gr g), fun _ => ⟨p, rfl, n, .lst upd_same (r.keep (GrM.keeps g (fun _ z => z.elim) fun a z y => ?_))⟩⟩
  rcases z with z | z
  · exact absurd z y
  · rw [z]; exact n
theorem VR.dct {p : Addr} {xs : List (Key × V)} {ds : List (D × D)} {f : Bool} (fb : FbOk H Fb) (n : H p = none) (r : RpK K H (Fb f) xs ds) : VR K Fb H (upd H p (.dK xs)) ⟨true, f⟩ (.ref p) (.dict ds) := by
  have g : Gr H (upd H p (.dK xs)) := Gr.new n
  refine ⟨.dct upd_same (fun z => fb.at f p z n) (r.gr g), fun _ => ⟨p, rfl, n, .dct upd_same (r.keep (GrM.keeps g (fun _ z => z.elim) fun a z y => ?_))⟩⟩
  rcases z with z | z
  · exact absurd z y
  · rw [z]; exact n
theorem VR.tup {p : Addr} {xs : List V} {ds : List D} {f : Bool} (n : H p = none) (r : RpA K H (Fb f) xs ds) : VR K Fb H (upd H p (.tup xs)) ⟨false, f⟩ (.ref p) (.tuple ds) :=
  ⟨.tup (.inl (.inl upd_same)) (r.gr (Gr.new n)), fun z => by cases z⟩
theorem lenOk_sz {n : Nat} (h : lenOk n = true) : n ≤ sizeLine := by
  rw [sizeLine_eq]
  have := of_decide_eq_true h
  omega
theorem lenOk_lt {n : Nat} (h : lenOk n = true) : n < sizeLine := by
  rw [sizeLine_eq]
  have := of_decide_eq_true h
  omega
/-! ### operators -/
section
variable {X : Cx}
theorem op_catR : OpR X (binaryOp .Add) (fun x y H Q => ∃ l b xs zs, x = .ref l ∧ y = .ref b ∧ Rd H l (.lst xs) ∧ Rd H b (.lst zs) ∧ xs.length + zs.length ≤ sizeLine ∧ ∀ p, H p = none → Q (.ref p) (upd H p (.lst (xs ++ zs)))) := by
  intro pins s σ H x y v u Q I rx ry h
  obtain ⟨l, b, xs, zs, rfl, rfl, hH, hB, hz, q⟩ := h
  cases rx
  cases ry
  obtain ⟨z, its, n, r, e⟩ := hH.ok I.hok
  obtain ⟨z2, its2, n2, r2, e2⟩ := hB.ok I.hok
  have hl := r.length
  have hl2 := r2.length
  refine PySem.P.add_list e e2 ?_ (by rw [List.size_toArray, List.size_toArray]; omega)
  have ea : its.toArray ++ its2.toArray = (its ++ its2).toArray := by simp
  rw [ea]
  exact ⟨.ref _, _, I.lnew (t' := s.toks) (r.append r2) (by rw [List.length_append]; omega), rfl, q _ I.fresh⟩
def BinOk (X : Cx) (Fb : Bool → Addr → Prop) (f : Value → Value → Sem Value) (a b : Bool × D) (k : Kd) (z : D) : Prop :=
  ∃ r : R2, OpR X f r ∧ ∀ (H : Hp) (v w : V) (Q : VK), FbOk H Fb → Bw X.K H (Fb a.1) v a.2 → Bw X.K H (Fb b.1) w b.2 → (∀ u H3, Gr H H3 → VR X.K Fb H H3 k u z → Q u H3) → r v w H Q
theorem BinOk.ii {f : Value → Value → Sem Value} {C : Int → Int → Prop} {g : Int → Int → Int} {x y : Bool} {i j : Int} (h : OpR X f (rI C fun i j => .int (g i j))) (c : C i j) : BinOk X Fb f (x, .int i) (y, .int j) ⟨false, true⟩ (.int (g i j)) :=
  ⟨_, h, fun H v w Q _ a b q => ⟨i, j, a.int, b.int, c, q _ H GrM.refl (VR.sc (f := true) (.int _) rfl)⟩⟩
theorem BinOk.ii0 {f : Value → Value → Sem Value} {g : Int → Int → Int} {x y : Bool} {i j : Int} (h : OpR X f (rI0 fun i j => .int (g i j))) : BinOk X Fb f (x, .int i) (y, .int j) ⟨false, true⟩ (.int (g i j)) :=
  ⟨_, h, fun H v w Q _ a b q => ⟨i, j, a.int, b.int, q _ H GrM.refl (VR.sc (f := true) (.int _) rfl)⟩⟩
theorem smallI_iff {i : Int} (h : smallI i = true) : -(2 ^ 64) < i ∧ i < 2 ^ 64 := of_decide_eq_true h
theorem and_up {f g : Bool} : ((f && g) = true → f = true) ∧ ((f && g) = true → g = true) := by cases f <;> cases g <;> simp
theorem bin_ok {o : Operator} {a b : Bool × D} {k : Kd} {z : D} (h : binE o a b = some (k, z)) : BinOk X Fb (binaryOp o) a b k z := by
  unfold binE at h
  split at h
  · cases h; exact BinOk.ii0 op_add
  · cases h; exact BinOk.ii0 op_sub
  · rename_i i _ j
    split at h
    · rename_i c
      cases h
      unfold mulOk at c
      simp only [Bool.or_eq_true, Bool.and_eq_true, decide_eq_true_eq] at c
      rcases c with c | c | ⟨c1, c2⟩
      · exact BinOk.ii op_mul (.inl (smallI_iff c))
      · exact BinOk.ii op_mul (.inr (smallI_iff c))
      · exact BinOk.ii op_mulW (wide_mul c1 c2 (by decide) (by decide) (by decide))
    · cases h
  · split at h
    · rename_i c
      cases h
      exact BinOk.ii (C := CDiv) (g := fun i j => i / j) op_fdiv (show 0 < _ ∧ _ from of_decide_eq_true c)
    · cases h
  · split at h
    · rename_i c
      cases h
      exact BinOk.ii op_mod (of_decide_eq_true c)
    · cases h
  · split at h
    · rename_i c
      cases h
      exact BinOk.ii (C := CPow) (g := fun i j => i ^ j.toNat) op_pow (show 0 ≤ _ ∧ _ from of_decide_eq_true c)
    · cases h
  · split at h
    · rename_i c
      cases h
      exact ⟨_, op_add_str, fun H v w Q _ a b q => ⟨_, _, a.str, b.str, lenOk_sz c, q _ H GrM.refl (VR.sc (f := true) (.str _) rfl)⟩⟩
    · cases h
  · split at h
    · rename_i f xs g ys c
      cases h
      refine ⟨_, op_catA, fun H v w Q fb a b q => ?_⟩
      obtain ⟨l, vs, rfl, hl, rl⟩ := a.tuple
      obtain ⟨m, ws, rfl, hm, rm⟩ := b.tuple
      have e1 := rl.length
      have e2 := rm.length
      have r1 : RpA X.K H (Fb (f && g)) vs xs := rl.less (fb.up and_up.1)
      have r2 : RpA X.K H (Fb (f && g)) ws ys := rm.less (fb.up and_up.2)
      refine ⟨l, m, vs, ws, rfl, rfl, hl, hm, by rw [e1, e2]; exact lenOk_sz c, fun e => ?_, fun _ e => ?_, fun _ _ p hp => ?_⟩
      · subst e
        cases rl
        exact q _ H GrM.refl (VR.al (.tup hm r2))
      · subst e
        cases rm
        simp only [List.append_nil] at q
        exact q _ H GrM.refl (VR.al (.tup hl r1))
      · exact q _ _ (Gr.new hp) (VR.tup hp (r1.append r2))
    · cases h
  · split at h
    · rename_i f xs g ys c
      cases h
      refine ⟨_, op_catR, fun H v w Q fb a b q => ?_⟩
      obtain ⟨l, vs, rfl, hl, rl⟩ := a.list
      obtain ⟨m, ws, rfl, hm, rm⟩ := b.list
      have e1 := rl.length
      have e2 := rm.length
      exact ⟨l, m, vs, ws, rfl, rfl, hl, hm, by rw [e1, e2]; exact lenOk_sz c, fun p hp => q _ _ (Gr.new hp) (VR.lst fb hp ((rl.less (fb.up and_up.1)).append (rm.less (fb.up and_up.2))))⟩
    · cases h
  · cases h
/-! ### keys -/
theorem keyOf_V {d : D} {k : Key} {v : V} (h : keyOf d = some k) (r : Bw K H O v d) : v = kV k := by
  cases d with
  | int i => cases h; exact r.int
  | str x => cases h; exact r.str
  | _ => cases h
theorem keyOf_keyD (k : Key) : keyOf (keyD k) = some k := by cases k <;> rfl
theorem RpK.getD : ∀ {kvs : List (Key × V)} {es : List (D × D)} (k : Key), RpK K H O kvs es → (valV kvs k = Option.none ∧ dgetE es k = Option.none) ∨ ∃ v d, valV kvs k = some v ∧ dgetE es k = some d ∧ Rp K H O v d
  | _, _, k, .nil => .inl ⟨rfl, rfl⟩
  | _, _, k, .cons (k := k0) (kvs := kvs) (es := es) h t => by
    by_cases e : k0 = k
    · subst e
      refine .inr ⟨_, _, valV_pos rfl, ?_, h⟩
      simp [dgetE, List.find?_cons, keyOf_keyD]
    · have e2 : ¬ keyOf (keyD k0) = some k := by rw [keyOf_keyD]; exact fun z => e (Option.some.inj z)
      rw [valV_neg e]
      have : dgetE ((keyD k0, ‹D›) :: es) k = dgetE es k := by simp [dgetE, List.find?_cons, e2]
      rw [this]
      exact RpK.getD k t
theorem RpK.getS {kvs : List (Key × V)} {es : List (D × D)} (k : Key) (r : RpK K H O kvs es) : (valV kvs k).isSome = (dgetE es k).isSome := by
  rcases r.getD k with ⟨a, b⟩ | ⟨v, d, a, b, _⟩ <;> rw [a, b] <;> rfl
theorem op_inD (hu : X.A.units + 1 < cLine) : OpR X (compareOp .In) (fun y x H Q => ∃ a o, x = .ref a ∧ DGet H a y o ∧ Q (.bl o.isSome) H) := by
  intro pins s σ H x y v u Q I rx ry h
  obtain ⟨a, o, rfl, g, q⟩ := h
  cases ry
  exact d_in hu I g rx fun s3 I3 => ⟨.bl o.isSome, H, I3, rfl, q⟩
theorem op_notInD' (hu : X.A.units + 1 < cLine) : OpR X (compareOp .NotIn) (fun y x H Q => ∃ a o, x = .ref a ∧ DGet H a y o ∧ Q (.bl (!o.isSome)) H) := by
  intro pins s σ H x y v u Q I rx ry h
  obtain ⟨a, o, rfl, g, q⟩ := h
  cases ry
  exact d_notIn hu I g rx fun s3 I3 => ⟨.bl (!o.isSome), H, I3, rfl, q⟩
/-- a comparison -/
def CmpOk (X : Cx) (Fb : Bool → Addr → Prop) (f : Value → Value → Sem Value) (a b : Bool × D) (t : Bool) : Prop :=
  ∃ r : R2, OpR X f r ∧ ∀ (H : Hp) (v w : V) (Q : VK), Bw X.K H (Fb a.1) v a.2 → Bw X.K H (Fb b.1) w b.2 → Q (.bl t) H → r v w H Q
theorem isSc_flat {d : D} {v : V} (h : isSc d = true) (r : Bw K H O v d) : flatV v = true := by
  cases r with
  | sh r => cases r <;> first | rfl | cases h
  | ow r => cases r <;> cases h
theorem eqV_eqv {d e : D} {v w : V} (h : isSc d = true) (h2 : isSc e = true) (r : Rp K H O v d) (r2 : Rp K H1 O' w e) : eqV v w = PyData.eqv d e := by
  cases r with
  | non => cases r2 <;> first | rfl | cases h2
  | bl _ => cases r2 <;> first | rfl | cases h2
  | int _ => cases r2 <;> first | rfl | cases h2
  | str _ => cases r2 <;> first | rfl | cases h2
  | tup _ _ => cases h
  | lst _ _ _ => cases h
  | dct _ _ _ => cases h
theorem flatA : ∀ {vs : List V} {ds : List D}, RpA K H O vs ds → ds.all isSc = true → vs.all flatV = true
  | _, _, .nil, _ => rfl
  | _, _, .cons h t, e => by
    rw [List.all_cons, Bool.and_eq_true] at e ⊢
    exact ⟨isSc_flat e.1 (.sh h), flatA t e.2⟩
theorem Bw.scal {d : D} {v : V} (h : isSc d = true) (r : Bw K H O v d) : Rp K H O v d := by
  cases r with
  | sh r => exact r
  | ow r => cases r <;> cases h
theorem inV_mem {d : D} {v : V} (h : isSc d = true) (r : Rp K H O v d) : ∀ {vs : List V} {ds : List D}, RpA K H1 O' vs ds → ds.all isSc = true → inV v vs = memFlat d ds
  | _, _, .nil, _ => rfl
  | _, _, .cons h1 t, e => by
    rw [List.all_cons, Bool.and_eq_true] at e
    have ih := inV_mem h r t e.2
    unfold inV memFlat at ih ⊢
    rw [List.any_cons, List.any_cons, ih, eqV_eqv e.1 h h1 r]
theorem cmp_ok (hu : X.A.units + 200 < cLine) {o : CmpOp} {a b : Bool × D} {t : Bool} (h : cmpE o a b = some t) : CmpOk X Fb (compareOp o) a b t := by
  unfold cmpE at h
  split at h
  · cases h; exact ⟨_, op_lt, fun H v w Q a b q => ⟨_, _, a.int, b.int, q⟩⟩
  · cases h; exact ⟨_, op_le, fun H v w Q a b q => ⟨_, _, a.int, b.int, q⟩⟩
  · cases h; exact ⟨_, op_gt, fun H v w Q a b q => ⟨_, _, a.int, b.int, q⟩⟩
  · cases h; exact ⟨_, op_ge, fun H v w Q a b q => ⟨_, _, a.int, b.int, q⟩⟩
  · split at h
    · rename_i c
      rw [Bool.and_eq_true] at c
      cases h
      exact ⟨_, op_eqD (by omega), fun H v w Q a b q => ⟨_, _, a.dp c.1, b.dp c.2, c.1, c.2, q⟩⟩
    · cases h
  · split at h
    · rename_i c
      rw [Bool.and_eq_true] at c
      cases h
      exact ⟨_, op_neD (by omega), fun H v w Q a b q => ⟨_, _, a.dp c.1, b.dp c.2, c.1, c.2, q⟩⟩
    · cases h
  · cases h
    refine ⟨_, op_isN, fun H v w Q a b q => ⟨b.none, ?_⟩⟩
    rename_i d _
    cases d with
    | none => rw [a.none]; exact q
    | bool x => rw [a.bool]; exact q
    | int x => rw [a.int]; exact q
    | str x => rw [a.str]; exact q
    | list x => obtain ⟨_, _, e, _⟩ := a.list; rw [e]; exact q
    | tuple x => obtain ⟨_, _, e, _⟩ := a.tuple; rw [e]; exact q
    | dict x => obtain ⟨_, _, e, _⟩ := a.dict; rw [e]; exact q
  · cases h
    refine ⟨_, op_notN, fun H v w Q a b q => ⟨b.none, ?_⟩⟩
    rename_i d _
    cases d with
    | none => rw [a.none]; exact q
    | bool x => rw [a.bool]; exact q
    | int x => rw [a.int]; exact q
    | str x => rw [a.str]; exact q
    | list x => obtain ⟨_, _, e, _⟩ := a.list; rw [e]; exact q
    | tuple x => obtain ⟨_, _, e, _⟩ := a.tuple; rw [e]; exact q
    | dict x => obtain ⟨_, _, e, _⟩ := a.dict; rw [e]; exact q
  · cases h; exact ⟨_, op_isBl, fun H v w Q a b q => ⟨_, _, a.bool, b.bool, q⟩⟩
  · cases h; exact ⟨_, op_notBl, fun H v w Q a b q => ⟨_, _, a.bool, b.bool, q⟩⟩
  · rename_i d _ es
    cases e : keyOf d with
    | none => rw [e] at h; cases h
    | some k =>
      rw [e] at h; cases h
      refine ⟨_, op_inD (by omega), fun H v w Q a b q => ?_⟩
      obtain ⟨l, kvs, rfl, hl, r⟩ := b.dict
      exact ⟨l, valV kvs k, rfl, by rw [keyOf_V e a]; exact DGet.k hl, by rw [r.getS k]; exact q⟩
  · rename_i d _ es
    cases e : keyOf d with
    | none => rw [e] at h; cases h
    | some k =>
      rw [e] at h; cases h
      refine ⟨_, op_notInD' (by omega), fun H v w Q a b q => ?_⟩
      obtain ⟨l, kvs, rfl, hl, r⟩ := b.dict
      exact ⟨l, valV kvs k, rfl, by rw [keyOf_V e a]; exact DGet.k hl, by rw [r.getS k]; exact q⟩
  · split at h
    · rename_i c
      rw [Bool.and_eq_true] at c
      cases h
      refine ⟨_, op_in_seq, fun H v w Q a b q => ?_⟩
      obtain ⟨l, vs, rfl, hl, r⟩ := b.tuple
      exact ⟨l, vs, rfl, .inr hl, isSc_flat c.1 a, flatA r c.2, by rw [inV_mem c.1 (a.scal c.1) r c.2]; exact q⟩
    · cases h
  · split at h
    · rename_i c
      rw [Bool.and_eq_true] at c
      cases h
      refine ⟨_, op_notIn_seq, fun H v w Q a b q => ?_⟩
      obtain ⟨l, vs, rfl, hl, r⟩ := b.tuple
      exact ⟨l, vs, rfl, .inr hl, isSc_flat c.1 a, flatA r c.2, by rw [inV_mem c.1 (a.scal c.1) r c.2]; exact q⟩
    · cases h
  · split at h
    · rename_i c
      rw [Bool.and_eq_true] at c
      cases h
      refine ⟨_, op_in_seq, fun H v w Q a b q => ?_⟩
      obtain ⟨l, vs, rfl, hl, r⟩ := b.list
      exact ⟨l, vs, rfl, .inl (.inl hl), isSc_flat c.1 a, flatA r c.2, by rw [inV_mem c.1 (a.scal c.1) r c.2]; exact q⟩
    · cases h
  · split at h
    · rename_i c
      rw [Bool.and_eq_true] at c
      cases h
      refine ⟨_, op_notIn_seq, fun H v w Q a b q => ?_⟩
      obtain ⟨l, vs, rfl, hl, r⟩ := b.list
      exact ⟨l, vs, rfl, .inl (.inl hl), isSc_flat c.1 a, flatA r c.2, by rw [inV_mem c.1 (a.scal c.1) r c.2]; exact q⟩
    · cases h
  · cases h
end
end R
namespace R
open PySem PySem.Spec PyProof.Rows L2
variable {K : PySem.W.Frag} {H H1 H2 H3 : Hp} {O O' M : Addr → Prop} {Fb : Bool → Addr → Prop}
inductive BwA (K : PySem.W.Frag) (H : Hp) (Fb : Bool → Addr → Prop) : List V → List (Bool × D) → Prop
  | nil : BwA K H Fb [] []
  | cons {v : V} {vs : List V} {q : Bool × D} {qs : List (Bool × D)} : Bw K H (Fb q.1) v q.2 → BwA K H Fb vs qs → BwA K H Fb (v :: vs) (q :: qs)
theorem BwA.gr : ∀ {vs : List V} {qs : List (Bool × D)}, BwA K H1 Fb vs qs → Gr H1 H2 → BwA K H2 Fb vs qs
  | _, _, .nil, _ => .nil
  | _, _, .cons h t, g => .cons (h.gr g) (t.gr g)
theorem BwA.one {vs : List V} {q : Bool × D} (h : BwA K H Fb vs [q]) : ∃ v, vs = [v] ∧ Bw K H (Fb q.1) v q.2 := by
  cases h with
  | cons h t => cases t; exact ⟨_, rfl, h⟩
theorem BwA.two {vs : List V} {q p : Bool × D} (h : BwA K H Fb vs [q, p]) : ∃ v w, vs = [v, w] ∧ Bw K H (Fb q.1) v q.2 ∧ Bw K H (Fb p.1) w p.2 := by
  cases h with
  | cons h t => obtain ⟨w, rfl, h2⟩ := t.one; exact ⟨_, _, rfl, h, h2⟩
/-- a call of a known value -/
def CbOk (X : Cx) (Fb : Bool → Addr → Prop) (f : Value) (es : List (Bool × D)) (k : Kd) (z : D) : Prop :=
  ∃ r : List V → Hp → VK → Prop, CallR X f r ∧ ∀ (H : Hp) (vs : List V) (Q : VK), FbOk H Fb → BwA X.K H Fb vs es → (∀ u H3, Gr H H3 → VR X.K Fb H H3 k u z → Q u H3) → r vs H Q
theorem RpA.ints : ∀ {vs : List V} {ds : List D} {ns : List Int}, RpA K H O vs ds → intsD ds = some ns → vs = ns.map V.int
  | _, _, _, .nil, e => by cases e; rfl
  | _, _, ns, .cons (d := d) (ds := ds) h t, e => by
    cases d with
    | int i =>
      simp only [intsD] at e
      cases q : intsD ds with
      | none => rw [q] at e; cases e
      | some l =>
        rw [q] at e; cases e
        cases h
        rw [RpA.ints t q]; rfl
    | _ => simp [intsD] at e
theorem RpA.bools : ∀ {vs : List V} {ds : List D} {ns : List Bool}, RpA K H O vs ds → bools ds = some ns → vs = ns.map V.bl
  | _, _, _, .nil, e => by cases e; rfl
  | _, _, ns, .cons (d := d) (ds := ds) h t, e => by
    cases d with
    | bool i =>
      simp only [R.bools] at e
      cases q : R.bools ds with
      | none => rw [q] at e; cases e
      | some l =>
        rw [q] at e; cases e
        cases h
        rw [RpA.bools t q]; rfl
    | _ => simp [R.bools] at e
theorem RpA.ofInts (K : PySem.W.Frag) (H : Hp) (O : Addr → Prop) : ∀ ns : List Int, RpA K H O (ns.map V.int) (ns.map .int)
  | [] => .nil
  | n :: ns => .cons (.int n) (RpA.ofInts K H O ns)
theorem RpK.keys : ∀ {kvs : List (Key × V)} {es : List (D × D)}, RpK K H O kvs es → RpA K H O' (kvs.map fun kv => kV kv.1) (es.map (·.1))
  | _, _, .nil => .nil
  | _, _, .cons (k := k) h t => .cons (by cases k; exact .int _; exact .str _) (RpK.keys t)
theorem RpK.vals : ∀ {kvs : List (Key × V)} {es : List (D × D)}, RpK K H O kvs es → RpA K H O (kvs.map (·.2)) (es.map (·.2))
  | _, _, .nil => .nil
  | _, _, .cons (k := k) h t => .cons h (RpK.vals t)
theorem RpK.length : ∀ {kvs : List (Key × V)} {es : List (D × D)}, RpK K H O kvs es → kvs.length = es.length
  | _, _, .nil => rfl
  | _, _, .cons h t => by simp [RpK.length t]
theorem sortI_perm (ns : List Int) : (sortI ns).Perm ns := List.mergeSort_perm _ _
theorem sortI_rise (ns : List Int) : (sortI ns).Pairwise (· ≤ ·) := by
  have h := List.pairwise_mergeSort (le := fun a b : Int => decide (a ≤ b)) (by intro a b c; simp only [decide_eq_true_eq]; omega) (by intro a b; simp only [Bool.or_eq_true, decide_eq_true_eq]; omega) ns
  exact h.imp fun z => of_decide_eq_true z
theorem sortI_eq {ns ms : List Int} (h : ms.Perm ns) (p : ms.Pairwise (· ≤ ·)) : ms = sortI ns :=
  PySem.W.ksm_same (h.trans (sortI_perm ns).symm) p (sortI_rise ns)
theorem maxF_ge : ∀ (xs : List Int) (x : Int), x ≤ xs.foldl (fun a b => if b > a then b else a) x
  | [], x => Int.le_refl _
  | y :: ys, x => by
    rw [List.foldl_cons]
    have := maxF_ge ys (if y > x then y else x)
    split at this <;> split <;> omega
theorem maxF_all : ∀ (xs : List Int) (x y : Int), y ∈ xs → y ≤ xs.foldl (fun a b => if b > a then b else a) x
  | z :: zs, x, y, h => by
    rw [List.foldl_cons]
    rcases List.mem_cons.mp h with e | e
    · subst e
      have := maxF_ge zs (if y > x then y else x)
      split at this <;> split <;> omega
    · exact maxF_all zs _ y e
theorem maxF_mem : ∀ (xs : List Int) (x : Int), xs.foldl (fun a b => if b > a then b else a) x = x ∨ xs.foldl (fun a b => if b > a then b else a) x ∈ xs
  | [], x => .inl rfl
  | y :: ys, x => by
    rw [List.foldl_cons]
    rcases maxF_mem ys (if y > x then y else x) with e | e
    · rw [e]
      split
      · exact .inr List.mem_cons_self
      · exact .inl rfl
    · exact .inr (List.mem_cons_of_mem _ e)
theorem maxI_is {ns : List Int} {m n : Int} (h : maxI ns = some m) (hm : n ∈ ns) (hl : ∀ y, y ∈ ns → y ≤ n) : n = m := by
  cases ns with
  | nil => cases h
  | cons x xs =>
    have e : xs.foldl (fun a b => if b > a then b else a) x = m := Option.some.inj h
    have h1 : m ∈ x :: xs := by
      rw [← e]
      rcases maxF_mem xs x with z | z
      · rw [z]; exact List.mem_cons_self
      · exact List.mem_cons_of_mem _ z
    have h2 := hl m h1
    have h3 : n ≤ m := by
      rw [← e]
      rcases List.mem_cons.mp hm with z | z
      · rw [z]; exact maxF_ge xs x
      · exact maxF_all xs x n z
    omega
section
variable {X : Cx}
/-- list(d) -/
theorem bf_ok (hc : X.calm = true) {f : Str} {es : List (Bool × D)} {k : Kd} {z : D} (h : bfE f es = some (k, z)) :
    ∃ fv, bootBuiltins f = some fv ∧ ((∃ id, fv = .builtin id) ∨ ∃ T, fv = .type T) ∧ CbOk X Fb fv es k z := by
  unfold bfE at h
  by_cases e : f = "len"
  · subst e
    rw [if_pos rfl] at h
    refine ⟨_, PySem.boot_len, .inl ⟨_, rfl⟩, ?_⟩
    split at h
    · cases h
      refine ⟨_, call_len_seq, fun H vs Q fb r q => ?_⟩
      obtain ⟨v, rfl, b⟩ := r.one
      obtain ⟨a, xs, rfl, hl, t⟩ := b.list
      refine ⟨a, xs, rfl, .inl (.inl hl), ?_⟩
      rw [t.length]
      exact q _ H GrM.refl (VR.sc (f := true) (.int _) rfl)
    · cases h
      refine ⟨_, call_len_seq, fun H vs Q fb r q => ?_⟩
      obtain ⟨v, rfl, b⟩ := r.one
      obtain ⟨a, xs, rfl, hl, t⟩ := b.tuple
      refine ⟨a, xs, rfl, .inr hl, ?_⟩
      rw [t.length]
      exact q _ H GrM.refl (VR.sc (f := true) (.int _) rfl)
    · cases h
      refine ⟨_, call_lenD, fun H vs Q fb r q => ?_⟩
      obtain ⟨v, rfl, b⟩ := r.one
      obtain ⟨a, xs, rfl, hl, t⟩ := b.dict
      refine ⟨a, xs, rfl, hl, ?_⟩
      rw [t.length]
      exact q _ H GrM.refl (VR.sc (f := true) (.int _) rfl)
    · split at h
      · rename_i c
        cases h
        refine ⟨_, call_len_str, fun H vs Q fb r q => ?_⟩
        obtain ⟨v, rfl, b⟩ := r.one
        exact ⟨_, by rw [b.str], lenOk_sz c, q _ H GrM.refl (VR.sc (f := true) (.int _) rfl)⟩
      · cases h
    · cases h
  rw [if_neg e] at h
  by_cases e : f = "abs"
  · subst e
    rw [if_pos rfl] at h
    refine ⟨.builtin "abs", by decide +kernel, .inl ⟨_, rfl⟩, ?_⟩
    split at h
    · cases h
      refine ⟨_, call_abs, fun H vs Q fb r q => ?_⟩
      obtain ⟨v, rfl, b⟩ := r.one
      exact ⟨_, by rw [b.int], q _ H GrM.refl (VR.sc (f := true) (.int _) rfl)⟩
    · cases h
  rw [if_neg e] at h
  by_cases e : f = "max"
  · subst e
    rw [if_pos rfl] at h
    refine ⟨.builtin "max", by decide +kernel, .inl ⟨_, rfl⟩, ?_⟩
    split at h
    · cases h
      refine ⟨_, call_max2 hc, fun H vs Q fb r q => ?_⟩
      obtain ⟨v, w, rfl, b, c⟩ := r.two
      exact ⟨_, _, by rw [b.int, c.int], q _ H GrM.refl (VR.sc (f := true) (.int _) rfl)⟩
    · rename_i xs
      cases e1 : intsD xs with
      | none => rw [e1] at h; cases h
      | some ns =>
        rw [e1] at h
        cases e2 : maxI ns with
        | none =>
          rw [show (some ns).bind maxI = maxI ns from rfl, e2] at h; cases h
        | some m =>
          rw [show (some ns).bind maxI = maxI ns from rfl, e2] at h
          cases h
          refine ⟨_, cr_max hc, fun H vs Q fb r q => ?_⟩
          obtain ⟨v, rfl, b⟩ := r.one
          obtain ⟨a, vs, rfl, hl, t⟩ := b.list
          refine ⟨a, ns, rfl, .inl (by rw [← t.ints e1]; exact hl), ?_, fun n hn hle => ?_⟩
          · cases ns with
            | nil => cases e2
            | cons _ _ => simp
          · rw [maxI_is e2 hn hle]
            exact q _ H GrM.refl (VR.sc (f := true) (.int _) rfl)
    · cases h
  rw [if_neg e] at h
  by_cases e : f = "min"
  · subst e
    rw [if_pos rfl] at h
    refine ⟨.builtin "min", by decide +kernel, .inl ⟨_, rfl⟩, ?_⟩
    split at h
    · cases h
      refine ⟨_, call_min2 hc, fun H vs Q fb r q => ?_⟩
      obtain ⟨v, w, rfl, b, c⟩ := r.two
      exact ⟨_, _, by rw [b.int, c.int], q _ H GrM.refl (VR.sc (f := true) (.int _) rfl)⟩
    · cases h
  rw [if_neg e] at h
  by_cases e : f = "int"
  · subst e
    rw [if_pos rfl] at h
    refine ⟨.type "int", by decide +kernel, .inr ⟨_, rfl⟩, ?_⟩
    split at h
    · cases h
      refine ⟨_, call_int1, fun H vs Q fb r q => ?_⟩
      obtain ⟨v, rfl, b⟩ := r.one
      exact .inl ⟨_, by rw [b.int], q _ H GrM.refl (VR.sc (f := true) (.int _) rfl)⟩
    · cases h
      refine ⟨_, call_int1, fun H vs Q fb r q => ?_⟩
      obtain ⟨v, rfl, b⟩ := r.one
      exact .inr ⟨_, by rw [b.bool], q _ H GrM.refl (VR.sc (f := true) (.int _) rfl)⟩
    · cases h
  rw [if_neg e] at h
  by_cases e : f = "str"
  · subst e
    rw [if_pos rfl] at h
    refine ⟨.type "str", by decide +kernel, .inr ⟨_, rfl⟩, ?_⟩
    split at h
    · split at h
      · rename_i c
        cases h
        refine ⟨_, call_str_int, fun H vs Q fb r q => ?_⟩
        obtain ⟨v, rfl, b⟩ := r.one
        exact ⟨_, by rw [b.int], of_decide_eq_true c, q _ H GrM.refl (VR.sc (f := true) (.str _) rfl)⟩
      · cases h
    · cases h
  rw [if_neg e] at h
  by_cases e : f = "list"
  · subst e
    rw [if_pos rfl] at h
    refine ⟨.type "list", by decide +kernel, .inr ⟨_, rfl⟩, ?_⟩
    split at h
    · cases h
      refine ⟨_, call_list_of, fun H vs Q fb r q => ?_⟩
      obtain ⟨v, rfl, b⟩ := r.one
      obtain ⟨a, vs, rfl, hl, t⟩ := b.list
      exact ⟨a, vs, rfl, .inl (.inl hl), fun p hp => q _ _ (Gr.new hp) (VR.lst fb hp t)⟩
    · cases h
      refine ⟨_, call_list_of, fun H vs Q fb r q => ?_⟩
      obtain ⟨v, rfl, b⟩ := r.one
      obtain ⟨a, vs, rfl, hl, t⟩ := b.tuple
      exact ⟨a, vs, rfl, .inr hl, fun p hp => q _ _ (Gr.new hp) (VR.lst fb hp t)⟩
    · cases h
      refine ⟨_, call_listD hc, fun H vs Q fb r q => ?_⟩
      obtain ⟨v, rfl, b⟩ := r.one
      obtain ⟨a, vs, rfl, hl, t⟩ := b.dict
      exact ⟨a, vs, rfl, .inl hl, fun p hp => q _ _ (Gr.new hp) (VR.lst fb hp t.keys)⟩
    · cases h
  rw [if_neg e] at h
  by_cases e : f = "tuple"
  · subst e
    rw [if_pos rfl] at h
    refine ⟨.type "tuple", by decide +kernel, .inr ⟨_, rfl⟩, ?_⟩
    split at h
    · cases h
      refine ⟨_, call_tuple_of, fun H vs Q fb r q => ?_⟩
      obtain ⟨v, rfl, b⟩ := r.one
      obtain ⟨a, vs, rfl, hl, t⟩ := b.list
      exact ⟨a, vs, rfl, .inl ⟨.inl hl, fun p hp => q _ _ (Gr.new hp) (VR.tup hp t)⟩⟩
    · cases h
      refine ⟨_, call_tuple_of, fun H vs Q fb r q => ?_⟩
      obtain ⟨v, rfl, b⟩ := r.one
      obtain ⟨a, vs, rfl, hl, t⟩ := b.tuple
      exact ⟨a, vs, rfl, .inr ⟨hl, q _ H GrM.refl (VR.al (.tup hl t))⟩⟩
    · cases h
  rw [if_neg e] at h
  by_cases e : f = "dict"
  · subst e
    rw [if_pos rfl] at h
    refine ⟨.type "dict", by decide +kernel, .inr ⟨_, rfl⟩, ?_⟩
    split at h
    · cases h
      refine ⟨_, call_dictD, fun H vs Q fb r q => ?_⟩
      obtain ⟨v, rfl, b⟩ := r.one
      obtain ⟨a, vs, rfl, hl, t⟩ := b.dict
      exact ⟨a, vs, rfl, .inl hl, fun p hp => q _ _ (Gr.new hp) (VR.dct fb hp t)⟩
    · cases h
  rw [if_neg e] at h
  by_cases e : f = "all"
  · subst e
    rw [if_pos rfl] at h
    refine ⟨.builtin "all", by decide +kernel, .inl ⟨_, rfl⟩, ?_⟩
    split at h
    · rename_i xs
      cases e1 : bools xs with
      | none => rw [e1] at h; cases h
      | some ns =>
        rw [e1] at h; cases h
        refine ⟨_, cr_all hc, fun H vs Q fb r q => ?_⟩
        obtain ⟨v, rfl, b⟩ := r.one
        obtain ⟨a, vs, rfl, hl, t⟩ := b.list
        exact ⟨a, ns, rfl, .inl (by rw [← t.bools e1]; exact hl), q _ H GrM.refl (VR.sc (f := true) (.bl _) rfl)⟩
    · cases h
  rw [if_neg e] at h
  by_cases e : f = "any"
  · subst e
    rw [if_pos rfl] at h
    refine ⟨.builtin "any", by decide +kernel, .inl ⟨_, rfl⟩, ?_⟩
    split at h
    · rename_i xs
      cases e1 : bools xs with
      | none => rw [e1] at h; cases h
      | some ns =>
        rw [e1] at h; cases h
        refine ⟨_, cr_any hc, fun H vs Q fb r q => ?_⟩
        obtain ⟨v, rfl, b⟩ := r.one
        obtain ⟨a, vs, rfl, hl, t⟩ := b.list
        exact ⟨a, ns, rfl, .inl (by rw [← t.bools e1]; exact hl), q _ H GrM.refl (VR.sc (f := true) (.bl _) rfl)⟩
    · cases h
  rw [if_neg e] at h
  by_cases e : f = "sorted"
  · subst e
    rw [if_pos rfl] at h
    refine ⟨.builtin "sorted", by decide +kernel, .inl ⟨_, rfl⟩, ?_⟩
    split at h
    · rename_i xs
      cases e1 : intsD xs with
      | none => rw [e1] at h; cases h
      | some ns =>
        rw [e1] at h; cases h
        refine ⟨_, cr_sortedI, fun H vs Q fb r q => ?_⟩
        obtain ⟨v, rfl, b⟩ := r.one
        obtain ⟨a, vs, rfl, hl, t⟩ := b.list
        refine ⟨a, ns, rfl, .inl (by rw [← t.ints e1]; exact hl), fun ms p hp hr hn => ?_⟩
        rw [sortI_eq hp hr]
        exact q _ _ (Gr.new hn) (VR.lst fb hn (RpA.ofInts _ _ _ _))
    · cases h
  rw [if_neg e] at h
  cases h
end
end R
set_option autoImplicit false
namespace R
open PySem PySem.Spec PyProof.Rows L2
variable {K : PySem.W.Frag} {H H1 H2 H3 : Hp} {O O' M : Addr → Prop} {Fb : Bool → Addr → Prop}
/-! ### does this piece stand there -/
def visB (sc : Scope) (x : Str) : Bool := match sc.names.lookup x with
  | some .local => true
  | some .cell => true
  | some .free => true
  | _ => false
def glbB (sc : Scope) (x : Str) : Bool := match sc.names.lookup x with
  | some .globalImplicit => true
  | _ => false
def locB (sc : Scope) (x : Str) : Bool := match sc.names.lookup x with
  | some .local => true
  | _ => false
def okName (x : Str) : Bool := !(x == ("__debug__" : Str)) && !(x == ("__classdict__" : Str)) && !decide (x = "__name__")
def slotB' (N : List Str) (sc : Scope) (i : Nat) (x : Str) : Bool := decide (N[i]? = some x) && visB sc x && okName x
def gnB (sc : Scope) (f x : Str) : Bool := decide (f = x) && glbB sc x && okName x
def starNo : Expr → Bool
  | .Starred _ _ => false
  | _ => true
/-- an expression whose test is its value's truth -/
def plainT : Expr → Bool
  | .UnaryOp .Not _ _ => false
  | .BoolOp _ _ _ => false
  | .IfExp _ _ _ _ => false
  | .Compare _ _ _ _ => false
  | _ => true
def noSl : Expr → Bool
  | .Slice _ _ _ _ => false
  | _ => true
def noSet : Expr → Bool
  | .Set _ _ _ => false
  | _ => true
def noSuper : Expr → Bool
  | .Call _ _ _ _ => false
  | _ => true
def constB : D → Const → Bool
  | .none, .none => true
  | .bool a, .bool b => a == b
  | .int a, .int b => a == b
  | .str a, .str b => decide (a = b)
  | _, _ => false
def opEq : Operator → Operator → Bool
  | .Add, .Add => true
  | .Sub, .Sub => true
  | .Mult, .Mult => true
  | .FloorDiv, .FloorDiv => true
  | .Mod, .Mod => true
  | .Pow, .Pow => true
  | _, _ => false
def cpEq : CmpOp → CmpOp → Bool
  | .Eq, .Eq => true
  | .NotEq, .NotEq => true
  | .Lt, .Lt => true
  | .LtE, .LtE => true
  | .Gt, .Gt => true
  | .GtE, .GtE => true
  | .Is, .Is => true
  | .IsNot, .IsNot => true
  | .In, .In => true
  | .NotIn, .NotIn => true
  | _, _ => false
def biNames : List Str := ["len", "abs", "max", "min", "int", "str", "list", "tuple", "dict", "all", "any", "sorted", "isinstance", "range", "bool", "sum", "zip", "enumerate", "reversed", "set"]
def tyNames : List Str := ["int", "bool", "str", "tuple", "list", "dict"]
def namesB (sc : Scope) : List Str → List Expr → Bool
  | [], [] => true
  | t :: ts, .Name x _ :: es => gnB sc t x && decide (t ∈ tyNames) && namesB sc ts es
  | _, _ => false
def valsO (sc : Scope) : Expr → Option Expr
  | .Call (.Name x _) [.Call (.Attribute o m apos) [] [] cpos] [] _ => if (decide (m = "values") && gnB sc "list" x && noSuper o && (apos.endLine == cpos.line)) = true then some o else none
  | _ => none
mutual
def ngE : X → Bool
  | .neg a => ngE a
  | .tup es => ngL es
  | .lst es => ngL es
  | .bin _ a b => ngE a && ngE b
  | .cmp _ a b => ngE a && ngE b
  | .ch _ _ a b c => ngE a && ngE b && ngE c
  | .and a b => ngE a && ngE b
  | .or a b => ngE a && ngE b
  | .not a => ngE a
  | .ife c a b => ngE c && ngE a && ngE b
  | .call _ es => ngL es
  | .bf _ es => ngL es
  | .isi a _ _ => ngE a
  | .ix a b => ngE a && ngE b
  | .sl a lo hi => ngE a && ngO lo && ngO hi
  | .lc _ src c e => ngS src && ngO c && ngE e
  | .ge _ _ _ _ _ => false
  | .vals a => ngE a
  | .me _ a es => ngE a && ngL es
  | _ => true
  termination_by structural x => x
def ngL : XL → Bool
  | .nil => true
  | .cons e es => ngE e && ngL es
  termination_by structural x => x
def ngO : XO → Bool
  | .no => true
  | .so e => ngE e
  termination_by structural x => x
def ngS : XS → Bool
  | .r a => ngE a
  | .l a => ngE a
  termination_by structural x => x
end
def noLst : Expr → Bool
  | .List _ _ => false
  | .Set _ _ _ => false
  | _ => true
def freeB (sc : Scope) (x : Str) : Bool := match sc.names.lookup x with
  | some .free => true
  | _ => false
def clB (sc : Scope) (x : Str) : Bool := match sc.names.lookup x with
  | some .free => true
  | some .cell => true
  | _ => false
def gxB (N : List Str) (sc scope : Scope) (y : Str) (i : Nat) (ws : List Nat) : Bool :=
  (match scope.kind with | .function => true | _ => false) && !scope.isCoroutine && scope.names.all (fun z => match z.2 with | .cell => false | _ => true) && locB scope ".0" && locB scope y && decide (N[i]? = some y) && ws.contains i &&
    scope.names.all (fun z => match z.2 with | .free => clB sc z.1 | _ => true) && (List.range N.length).all fun j => ws.contains j || (match N[j]? with | some z => freeB scope z | none => true)
def geO (sc : Scope) (q : Str) : Expr → Option (Expr × Str × Expr × Scope)
  | .Call (.Name x _) [.GeneratorExp elt [⟨.Name y _, iter, [], 0⟩] scope _] [] _ => if (gnB sc q x && (decide (q = "all") || decide (q = "any"))) = true then some (elt, y, iter, scope) else none
  | _ => none
mutual
def mtE (N : List Str) (sc : Scope) : X → Expr → Bool
  | .v i, .Name x _ => slotB' N sc i x
  | .k d, .Constant c _ _ => constB d c
  | .g n, .Name x _ => gnB sc n x
  | .neg a, .UnaryOp .USub e _ => mtE N sc a e
  | .tup es, .Tuple l _ _ => mtL N sc es l
  | .lst es, .List l _ => mtL N sc es l
  | .dnew, .Dict [] [] _ => true
  | .bin o a b, .BinOp ea oe eb _ => opEq o oe && mtE N sc a ea && mtE N sc b eb
  | .cmp o a b, .Compare ea [oe] [eb] _ => cpEq o oe && mtE N sc a ea && mtE N sc b eb && !behindInMarks oe eb
  | .ch o o' a b c, .Compare ea [oe, oe'] [eb, ec] _ => cpEq o oe && cpEq o' oe' && mtE N sc a ea && mtE N sc b eb && mtE N sc c ec
      && !behindInMarks oe eb && !behindInMarks oe' ec
  | .and a b, .BoolOp .And [ea, eb] _ => mtE N sc a ea && mtE N sc b eb
  | .and a b, .BoolOp .And (ea :: eb :: ec :: rest) p => mtE N sc a ea && mtE N sc b (.BoolOp .And (eb :: ec :: rest) p)
  | .or a b, .BoolOp .Or [ea, eb] _ => mtE N sc a ea && mtE N sc b eb
  | .or a b, .BoolOp .Or (ea :: eb :: ec :: rest) p => mtE N sc a ea && mtE N sc b (.BoolOp .Or (eb :: ec :: rest) p)
  | .not a, .UnaryOp .Not e _ => mtE N sc a e
  | .ife c a b, .IfExp ec ea eb _ => mtE N sc c ec && mtE N sc a ea && mtE N sc b eb
  | .call f es, .Call (.Name x _) l [] _ => gnB sc f x && mtL N sc es l
  | .bf f es, .Call (.Name x _) l [] _ => gnB sc f x && decide (f ∈ biNames) && mtL N sc es l
  | .isi a ts true, .Call (.Name x _) [e, .Name t _] [] _ => gnB sc "isinstance" x && mtE N sc a e && starNo e && namesB sc ts [.Name t ⟨0, 0, 0, 0⟩]
  | .isi a ts false, .Call (.Name x _) [e, .Tuple l _ _] [] _ => gnB sc "isinstance" x && mtE N sc a e && starNo e && namesB sc ts l && decide (ts.length ≤ 100)
  | .ix a b, .Subscript ea eb _ => mtE N sc a ea && mtE N sc b eb && noSl eb
  | .sl a lo hi, .Subscript ea (.Slice el eh none _) _ => mtE N sc a ea && mtO N sc lo el && mtO N sc hi eh
  | .ge q i ws src x, e => (geO sc q e).any fun t => mtS N sc src t.2.2.1 && noLst t.2.2.1 && gxB N sc t.2.2.2 t.2.1 i ws && mtE N t.2.2.2 x t.1 && ngE x
  | .vals a, e => (valsO sc e).any fun o => mtE N sc a o
  | .lc i src c e, .ListComp elt [⟨.Name y _, iter, ifs, 0⟩] scope _ => mtS N sc src iter && noSet iter && blkC N sc scope [(y, i)] && locB scope y && okName y && mtC N scope c ifs && mtE N scope e elt
  | _, _ => false
  termination_by structural x => x
def mtL (N : List Str) (sc : Scope) : XL → List Expr → Bool
  | .nil, [] => true
  | .cons e es, x :: xs => mtE N sc e x && starNo x && mtL N sc es xs
  | _, _ => false
  termination_by structural x => x
def mtO (N : List Str) (sc : Scope) : XO → Option Expr → Bool
  | .no, none => true
  | .so e, some x => mtE N sc e x
  | _, _ => false
  termination_by structural x => x
def mtC (N : List Str) (sc : Scope) : XO → List Expr → Bool
  | .no, [] => true
  | .so e, [x] => mtE N sc e x
  | _, _ => false
  termination_by structural x => x
def mtS (N : List Str) (sc : Scope) : XS → Expr → Bool
  | .r a, .Call (.Name x _) [e] [] _ => gnB sc "range" x && mtE N sc a e && starNo e
  | .l e, x => mtE N sc e x
  | _, _ => false
  termination_by structural x => x
end
/-! ### what is needed of a context -/
def MuA (mu : List Nat) (vs : List V) (a : Addr) : Prop := ∃ i, i ∈ mu ∧ vs[i]? = some (V.ref a)
def forb (H : Hp) (O : Addr → Prop) (f : Bool) : Addr → Prop := fun a => if f = true then H a ≠ none else O a
/-- a def's promise, by its function on trees -/
def spD (K : PySem.W.Frag) (mg : Str → Option Value) (tabs : List Addr) (s : FSpec) : Sp := fun vs H Q E =>
  ∃ (ds : List D) (O : Addr → Prop) (r : Except Str (D × List D)), vs.length = s.n ∧ ds.length = s.n ∧ (∀ a, O a → H a ≠ none) ∧ (∀ a, MuA s.mu vs a → O a) ∧ (∀ P, P ∈ tabs → GxR.TabG H P) ∧
    (∀ i v d, i ∉ s.mu → vs[i]? = some v → ds[i]? = some d → Rp K H O v d) ∧
    (∀ i d, i ∈ s.mu → ds[i]? = some d → ∃ a : Addr, vs[i]? = some (V.ref a) ∧ OwAt K H O a d) ∧
    (∀ (i j : Nat) (a : Addr), i ∈ s.mu → j ∈ s.mu → vs[i]? = some (V.ref a) → vs[j]? = some (V.ref a) → i = j) ∧
    s.F ds = some r ∧
    (∀ d ms, r = .ok (d, ms) → ∀ v H', GrM (MuA s.mu vs) H H' → VR K (forb H O) H H' s.kd v d →
      (∀ (j i : Nat) (a : Addr), s.mu[j]? = some i → vs[i]? = some (V.ref a) → ∃ m, ms[j]? = some m ∧ OwAt K H' O a m) → Q v H') ∧
    (∀ c, r = .error c → ∀ C : Addr, mg c = some (Value.ref C) → ∀ H', GrM (MuA s.mu vs) H H' → E (Value.ref C) none H')
structure GC (ft : FT) (k : Nat) (N : List Str) (tabs : List Addr) (W : WX) (X : Cx) (sc : Scope) : Prop where
  vis : ∀ x, visB sc x = true → Vis X.env.scope x
  glb : ∀ x, glbB sc x = true → Gl X x
  loc : ∀ x, locB sc x = true → X.env.scope.names.lookup x = some .local
  fre : ∀ x, (sc.names.lookup x = some .cell ∨ sc.names.lookup x = some .free) → (X.env.scope.names.lookup x = some .cell ∨ X.env.scope.names.lookup x = some .free)
  hN : X.N = N
  nd : N.Nodup
  calm : X.calm = true
  room : Room k X.A
  bi : ∀ x, x ∈ biNames → X.mg x = none
  fn : ∀ f s, ft.fn f = some s → ∃ (a : Addr) (fd : FuncData) (ps : List Str), X.mg f = some (.ref a) ∧ PySem.W.keepIn X.K (.ref a) = true ∧ Binds X.K fd ps [] ∧ ps.length = s.n ∧
    FnOk X.prog X.w X.K X.mg X.base (CX X.prog X.w) k a fd ps (spD X.K X.mg tabs s)
  gl : ∀ n d, ft.gl n = some d → ∃ v u, X.mg n = some u ∧ RelV v u ∧ ∀ H O, Rp X.K H O v d
  tk : Takes X W
  tb : ft.ge = true → Room (k + 1) X.A ∧ ∃ c P, X.env.code = .ref c ∧ GxR.TabB X.base X.mg c P ∧ P ∈ tabs
/-- the slots hold what the trees tell -/
structure EV (K : PySem.W.Frag) (H : Hp) (Fb : Bool → Addr → Prop) (σ : L2.St) (env : Env1) : Prop where
  len : env.length = σ.length
  sh : ∀ (i : Nat) f d, env[i]? = some (Slot.sh f d) → ∃ v, σ[i]? = some (some v) ∧ Rp K H (Fb f) v d
  ow : ∀ (i : Nat) n f d, env[i]? = some (Slot.ow n f d) → ∃ a : Addr, σ[i]? = some (some (V.ref a)) ∧ OwAt K H (Fb f) a d
theorem EV.gr {σ : L2.St} {env : Env1} (h : EV K H1 Fb σ env) (g : Gr H1 H2) : EV K H2 Fb σ env :=
  ⟨h.len, fun i f d e => let ⟨v, a, b⟩ := h.sh i f d e; ⟨v, a, b.gr g⟩, fun i n f d e => let ⟨v, a, b⟩ := h.ow i n f d e; ⟨v, a, b.gr g⟩⟩
/-- the readings by what they do -/
def SE (X : Cx) (e : Expr) : TE := fun σ H Q => ∀ pins s, Inv X pins σ H s → wpAny (model X.prog X.w) X.A (eval e X.env) (EP X pins σ Q) X.xe s
def ST (X : Cx) (e : Expr) : TT := fun σ H Q => ∀ pins s, Inv X pins σ H s → wpAny (model X.prog X.w) X.A (isTrue e X.env (eval e X.env)) (TP X pins σ Q) X.xe s
def SA (X : Cx) (es : List Expr) : TA := fun σ H Q => ∀ pos pins s, Inv X pins σ H s → wpAny (model X.prog X.w) X.A (spliced (backTo pos (starEach es X.env))) (AP X pins σ Q) X.xe s
theorem pe_S {X : Cx} {e : Expr} : PE X e (SE X e) := ⟨fun pins s σ H Q I h => h pins s I⟩
theorem pt_S {X : Cx} {e : Expr} : PT X e (ST X e) := ⟨fun pins s σ H Q I h => h pins s I⟩
theorem pa_S {X : Cx} {e : List Expr} : PA X e (SA X e) := ⟨fun pos pins s σ H Q I h => h pos pins s I⟩
theorem SE.of {X : Cx} {e : Expr} {t : TE} (h : PE X e t) {σ : L2.St} {H : Hp} {Q : VK} (q : t σ H Q) : SE X e σ H Q := fun pins s I => h.run pins s σ H Q I q
theorem ST.of {X : Cx} {e : Expr} {t : TT} (h : PT X e t) {σ : L2.St} {H : Hp} {Q : Bool → Hp → Prop} (q : t σ H Q) : ST X e σ H Q := fun pins s I => h.run pins s σ H Q I q
theorem SA.of {X : Cx} {e : List Expr} {t : TA} (h : PA X e t) {σ : L2.St} {H : Hp} {Q : List V → Hp → Prop} (q : t σ H Q) : SA X e σ H Q := fun pos pins s I => h.run pos pins s σ H Q I q
section
variable (ft : FT) (k : Nat) (N : List Str) (tabs : List Addr)
def TB (tabs : List Addr) (H : Hp) : Prop := ∀ P, P ∈ tabs → GxR.TabG H P
theorem TB.gr {tabs : List Addr} (h : TB tabs H1) (g : GrM M H1 H2) : TB tabs H2 := fun P m => g.tabs P (h P m)
/-- where one stands -/
structure At (X : Cx) (W : WX) (sc : Scope) (Fb : Bool → Addr → Prop) (σ : L2.St) (H : Hp) (env : Env1) : Prop where
  gc : GC ft k N tabs W X sc
  ev : EV X.K H Fb σ env
  fb : FbOk H Fb
  tb : TB tabs H
/-- an error is taken -/
def ErrOk (X : Cx) (W : WX) (σ : L2.St) (H : Hp) (c : Str) : Prop := ∀ C : Addr, X.mg c = some (Value.ref C) → ∀ H2, Gr H H2 → W (Value.ref C) none σ H2
variable {ft k N tabs}
theorem At.gr {X : Cx} {W : WX} {sc : Scope} {σ : L2.St} {env : Env1} (h : At ft k N tabs X W sc Fb σ H1 env) (g : Gr H1 H2) : At ft k N tabs X W sc Fb σ H2 env :=
  ⟨h.gc, h.ev.gr g, h.fb.gr g, h.tb.gr g⟩
theorem ErrOk.gr {X : Cx} {W : WX} {σ : L2.St} {c : Str} (h : ErrOk X W σ H1 c) (g : Gr H1 H2) : ErrOk X W σ H2 c := fun C e H' g' => h C e H' (g.trans g')
variable (ft k N tabs)
/-- the expression e evaluates as x tells -/
def ES (sc : Scope) (x : X) (e : Expr) : Prop := ∀ (X : Cx) (W : WX) (Fb : Bool → Addr → Prop) (σ : L2.St) (H : Hp) (env : Env1) (r : Except Str (Kd × D)) (Q : VK),
  At ft k N tabs X W sc Fb σ H env → evE ft x env = some r →
  (∀ q, r = .ok q → ∀ v H2, Gr H H2 → VR X.K Fb H H2 q.1 v q.2 → Q v H2) → (∀ c, r = .error c → ErrOk X W σ H c) → SE X e σ H Q
def BS (sc : Scope) (x : X) (e : Expr) : Prop := ∀ (X : Cx) (W : WX) (Fb : Bool → Addr → Prop) (σ : L2.St) (H : Hp) (env : Env1) (r : Except Str (Bool × D)) (Q : VK),
  At ft k N tabs X W sc Fb σ H env → brw env x (evE ft x env) = some r →
  (∀ q, r = .ok q → ∀ v H2, Gr H H2 → Bw X.K H2 (Fb q.1) v q.2 → Q v H2) → (∀ c, r = .error c → ErrOk X W σ H c) → SE X e σ H Q
def TS' (sc : Scope) (x : X) (e : Expr) : Prop := ∀ (X : Cx) (W : WX) (Fb : Bool → Addr → Prop) (σ : L2.St) (H : Hp) (env : Env1) (r : Except Str Bool) (Q : Bool → Hp → Prop),
  At ft k N tabs X W sc Fb σ H env → trE (brw env x (evE ft x env)) = some r →
  (∀ b, r = .ok b → ∀ H2, Gr H H2 → Q b H2) → (∀ c, r = .error c → ErrOk X W σ H c) → ST X e σ H Q
def LS (sc : Scope) (x : XL) (e : List Expr) : Prop := ∀ (X : Cx) (W : WX) (Fb : Bool → Addr → Prop) (σ : L2.St) (H : Hp) (env : Env1) (r : Except Str (Bool × List D)) (Q : List V → Hp → Prop),
  At ft k N tabs X W sc Fb σ H env → evL ft x env = some r →
  (∀ q, r = .ok q → ∀ vs H2, Gr H H2 → RpA X.K H2 (Fb q.1) vs q.2 → Q vs H2) → (∀ c, r = .error c → ErrOk X W σ H c) → SA X e σ H Q
def LBS (sc : Scope) (x : XL) (e : List Expr) : Prop := ∀ (X : Cx) (W : WX) (Fb : Bool → Addr → Prop) (σ : L2.St) (H : Hp) (env : Env1) (r : Except Str (List (Bool × D))) (Q : List V → Hp → Prop),
  At ft k N tabs X W sc Fb σ H env → evBL ft x env = some r →
  (∀ q, r = .ok q → ∀ vs H2, Gr H H2 → BwA X.K H2 Fb vs q → Q vs H2) → (∀ c, r = .error c → ErrOk X W σ H c) → SA X e σ H Q
variable {ft k N tabs}
theorem bnd_inv {α β : Type} {r : Ex α} {f : α → Ex β} {q : Except Str β} (h : bnd r f = some q) : (∃ c, r = some (.error c) ∧ q = .error c) ∨ ∃ a, r = some (.ok a) ∧ f a = some q := by
  cases r with
  | none => cases h
  | some r =>
    cases r with
    | error c => exact .inl ⟨c, rfl, (Option.some.inj h).symm⟩
    | ok a => exact .inr ⟨a, rfl, h⟩
theorem lift_inv {α : Type} {o : Option α} {q : Except Str α} (h : lift o = some q) : ∃ a, o = some a ∧ q = .ok a := by
  cases o with
  | none => cases h
  | some a => exact ⟨a, rfl, (Option.some.inj h).symm⟩
theorem errTo {α β : Type} {X : Cx} {W : WX} {σ : L2.St} {H : Hp} {c : Str} (h : ∀ c', (Except.error c : Except Str α) = .error c' → ErrOk X W σ H c') : ∀ c', (Except.error c : Except Str β) = .error c' → ErrOk X W σ H c' :=
  fun c' e => by cases e; exact h c rfl
/-- from a value to a thing that is read -/
theorem BS.of {sc : Scope} {x : X} {e : Expr} (h : ES ft k N tabs sc x e) (hm : mtE N sc x e = true) : BS ft k N tabs sc x e := by
  intro X W Fb σ H env r Q a ev q er
  by_cases hx : ∃ i, x = .v i
  · obtain ⟨i, rfl⟩ := hx
    obtain ⟨s, es, rfl⟩ := lift_inv (show lift (slotB env[i]?) = some r from ev)
    cases e with
    | Name y pos =>
      simp only [mtE, slotB', Bool.and_eq_true, decide_eq_true_eq, okName, Bool.not_eq_true'] at hm
      obtain ⟨⟨hN, hv⟩, ⟨h1, h2⟩, _⟩ := hm
      refine SE.of (pe_var (i := i) (by rw [a.gc.hN]; exact hN) (a.gc.vis y hv) h1 h2) ?_
      cases sl : env[i]? with
      | none => rw [sl] at es; cases es
      | some s0 =>
        rw [sl] at es
        cases s0 with
        | no => cases es
        | sh f d =>
          obtain ⟨v, e1, r1⟩ := a.ev.sh i f d sl
          cases es
          refine ⟨v, e1, q _ rfl v H GrM.refl (.sh ?_)⟩
          exact (VR.alm (H1 := H) r1).1
        | ow n f d =>
          obtain ⟨v, e1, r1⟩ := a.ev.ow i n f d sl
          cases es
          exact ⟨_, e1, q _ rfl _ H GrM.refl (.ow r1)⟩
    | _ => simp [mtE] at hm
  · have eb : brw env x (evE ft x env) = toB (evE ft x env) := by
      unfold brw
      split
      · exact absurd ⟨_, rfl⟩ hx
      · rfl
    rw [eb] at ev
    rcases bnd_inv ev with ⟨c, e1, rfl⟩ | ⟨p, e1, e2⟩
    · exact h X W Fb σ H env _ Q a e1 (fun _ z => by cases z) (errTo er)
    · cases e2
      refine h X W Fb σ H env _ Q a e1 (fun q' z v H2 g vr => ?_) (fun _ z => by cases z)
      cases z
      exact q _ rfl v H2 g vr.bw
theorem TruV.of {v : V} {d : D} {b : Bool} (h : truthE d = some b) (r : Bw K H O v d) : TruV K v H b := by
  cases d with
  | none => cases h; rw [r.none]; rfl
  | bool x => cases h; rw [r.bool]; rfl
  | int i => cases h; rw [r.int]; rfl
  | str x =>
    unfold truthE at h
    simp only at h
    split at h
    · rename_i c
      cases h
      rw [r.str]
      refine ⟨lenOk_sz c, ?_⟩
      cases x.length <;> simp <;> omega
    · cases h
  | list xs =>
    cases h
    obtain ⟨a, vs, rfl, hl, t⟩ := r.list
    exact .inl ⟨vs, .inl hl, by cases t <;> rfl⟩
  | tuple xs =>
    cases h
    obtain ⟨a, vs, rfl, hl, t⟩ := r.tuple
    exact .inr (.inl ⟨vs, hl, by cases t <;> rfl⟩)
  | dict es =>
    cases h
    obtain ⟨a, vs, rfl, hl, t⟩ := r.dict
    exact .inr (.inr ⟨vs, hl, by cases t <;> rfl⟩)
theorem isTrue_plainT {e : Expr} {env : PySem.Env} (h : plainT e = true) (whole : Sem Value) : isTrue e env whole = (do let v ← whole; standAt e.pos; holding [v] (truthy v)) := by
  cases e with
  | UnaryOp o x p => cases o <;> first | rfl | cases h
  | _ => first | rfl | cases h
/-- a test of no form of its own -/
theorem TS'.of {sc : Scope} {x : X} {e : Expr} (h : BS ft k N tabs sc x e) (hp : plainT e = true) : TS' ft k N tabs sc x e := by
  intro X W Fb σ H env r Q a ev q er
  refine ST.of (pt_truth pe_S (isTrue_plainT hp)) ?_
  rcases bnd_inv ev with ⟨c, e1, rfl⟩ | ⟨p, e1, e2⟩
  · exact h X W Fb σ H env _ _ a e1 (fun _ z => by cases z) (errTo er)
  · obtain ⟨b, eb, rfl⟩ := lift_inv e2
    refine h X W Fb σ H env _ _ a e1 (fun q' z v H2 g vr => ?_) (fun _ z => by cases z)
    cases z
    exact ⟨b, TruV.of eb vr, q _ rfl H2 g⟩
end
end R
namespace R
open PySem PySem.Spec PyProof.Rows L2
variable {K : PySem.W.Frag} {H H1 H2 H3 : Hp} {O O' M : Addr → Prop} {Fb : Bool → Addr → Prop}
variable {ft : FT} {k : Nat} {N : List Str} {tabs : List Addr} {sc : Scope}
theorem star_eq {e : Expr} {es : List Expr} {env : PySem.Env} (h : starNo e = true) : starEach (e :: es) env = (false, eval e env) :: starEach es env := by
  cases e <;> first | rfl | cases h
theorem mtL_star : ∀ {es : XL} {l : List Expr}, mtL N sc es l = true → ∀ e, e ∈ l → starNo e = true
  | .nil, [], _, e, h => by cases h
  | .nil, _ :: _, h, _, _ => by simp [mtL] at h
  | .cons _ _, [], h, _, _ => by simp [mtL] at h
  | .cons x es, y :: l, h, e, he => by
    simp only [mtL, Bool.and_eq_true] at h
    rcases List.mem_cons.mp he with z | z
    · rw [z]; exact h.1.2
    · exact mtL_star h.2 e z
theorem star_any {pos : Pos} {env : PySem.Env} : ∀ {l : List Expr}, (∀ e, e ∈ l → starNo e = true) → (backTo pos (starEach l env)).any (·.1) = false
  | [], _ => rfl
  | e :: l, h => by
    rw [star_eq (h e List.mem_cons_self)]
    show (false || (backTo pos (starEach l env)).any (·.1)) = false
    rw [star_any fun x hx => h x (List.mem_cons_of_mem _ hx)]
    rfl
theorem gn_inv {f x : Str} (h : gnB sc f x = true) : f = x ∧ glbB sc x = true ∧ (x == ("__debug__" : Str)) = false ∧ x ≠ "__name__" := by
  simp only [gnB, Bool.and_eq_true, decide_eq_true_eq, okName, Bool.not_eq_true', decide_eq_false_iff_not] at h
  exact ⟨h.1.1, h.1.2, h.2.1.1, h.2.2⟩
theorem hu_of' {X : Cx} (r : Room k X.A) : X.A.units + 200 < cLine := by have := r.un; omega
section
variable {X : Cx} {W : WX} {σ : L2.St} {env : Env1}
theorem falseOp {f : Value → Value → Sem Value} : OpR X f (fun _ _ _ _ => False) := fun _ _ _ _ _ _ _ _ _ _ _ _ h => h.elim
theorem falseCall {f : Value} : CallR X f (fun _ _ _ => False) := fun _ _ _ _ _ _ _ _ _ h => h.elim
end
theorem es_v {i : Nat} {x : Str} {pos : Pos} (hm : mtE N sc (.v i) (.Name x pos) = true) : ES ft k N tabs sc (.v i) (.Name x pos) := by
  intro X W Fb σ H env r Q a ev q er
  obtain ⟨s, es, rfl⟩ := lift_inv (show lift (slotV env[i]?) = some r from ev)
  simp only [mtE, slotB', Bool.and_eq_true, decide_eq_true_eq, okName, Bool.not_eq_true'] at hm
  obtain ⟨⟨hN, hv⟩, ⟨h1, h2⟩, _⟩ := hm
  refine SE.of (pe_var (i := i) (by rw [a.gc.hN]; exact hN) (a.gc.vis x hv) h1 h2) ?_
  cases sl : env[i]? with
  | none => rw [sl] at es; cases es
  | some s0 =>
    rw [sl] at es
    cases s0 with
    | no => cases es
    | sh f d =>
      obtain ⟨v, e1, r1⟩ := a.ev.sh i f d sl
      cases es
      exact ⟨v, e1, q _ rfl v H GrM.refl (VR.alm r1)⟩
    | ow n f d => cases es
theorem es_k {d : D} {c : Const} {j : Nat} {pos : Pos} (hm : constB d c = true) : ES ft k N tabs sc (.k d) (.Constant c j pos) := by
  intro X W Fb σ H env r Q a ev q er
  cases d with
  | none =>
    cases c <;> first | cases hm | skip
    cases (show some (Except.ok (R.sc PyData.none)) = some r from ev)
    exact SE.of pe_non (q _ rfl _ H GrM.refl (VR.sc (f := true) .non rfl))
  | bool b =>
    cases c <;> first | cases hm | skip
    rename_i b'
    have e : b = b' := by simpa [constB] using hm
    subst e
    cases (show some (Except.ok (R.sc (PyData.bool b))) = some r from ev)
    exact SE.of pe_bl (q _ rfl _ H GrM.refl (VR.sc (f := true) (.bl b) rfl))
  | int b =>
    cases c <;> first | cases hm | skip
    rename_i b'
    have e : b = b' := by simpa [constB] using hm
    subst e
    cases (show some (Except.ok (R.sc (PyData.int b))) = some r from ev)
    exact SE.of pe_int (q _ rfl _ H GrM.refl (VR.sc (f := true) (.int b) rfl))
  | str b =>
    cases c <;> first | cases hm | skip
    rename_i b'
    have e : b = b' := by simpa [constB] using hm
    subst e
    cases (show some (Except.ok (R.sc (PyData.str b))) = some r from ev)
    exact SE.of pe_str (q _ rfl _ H GrM.refl (VR.sc (f := true) (.str b) rfl))
  | list _ => cases c <;> cases hm
  | tuple _ => cases c <;> cases hm
  | dict _ => cases c <;> cases hm
theorem es_g {n x : Str} {pos : Pos} (hm : gnB sc n x = true) : ES ft k N tabs sc (.g n) (.Name x pos) := by
  intro X W Fb σ H env r Q a ev q er
  obtain ⟨rfl, hg, hd, _⟩ := gn_inv hm
  obtain ⟨s, es, rfl⟩ := lift_inv (show lift ((ft.gl n).map fun d => ((⟨false, true⟩, d) : Kd × D)) = some r from ev)
  cases e : ft.gl n with
  | none => rw [e] at es; cases es
  | some d =>
    rw [e] at es; cases es
    obtain ⟨v, u, h1, h2, h3⟩ := a.gc.gl n d e
    exact SE.of (pe_glob (a.gc.glb n hg) h1 h2 hd) (q _ rfl v H GrM.refl ⟨h3 H _, fun z => by cases z⟩)
theorem es_neg {a : X} {ea : Expr} {pos : Pos} (ha : ES ft k N tabs sc a ea) : ES ft k N tabs sc (.neg a) (.UnaryOp .USub ea pos) := by
  intro X W Fb σ H env r Q A ev q er
  refine SE.of (pe_un un_neg pe_S) ?_
  rcases bnd_inv ev with ⟨c, e1, rfl⟩ | ⟨⟨kd, d⟩, e1, e2⟩
  · exact ha X W Fb σ H env _ _ A e1 (fun _ z => by cases z) (errTo er)
  · refine ha X W Fb σ H env _ _ A e1 (fun p z v H2 g vr => ?_) (fun _ z => by cases z)
    cases z
    cases d with
    | int i =>
      cases e2
      have ev : v = .int i := Bw.int (.sh vr.1)
      exact ⟨i, ev, q _ rfl _ H2 g (VR.sc (f := true) (.int _) rfl)⟩
    | _ => cases e2
theorem ls_nil : LS ft k N tabs sc .nil [] := by
  intro X W Fb σ H env r Q A ev q er
  cases ev
  exact SA.of pa_nil (q _ rfl [] H GrM.refl .nil)
theorem lbs_nil : LBS ft k N tabs sc .nil [] := by
  intro X W Fb σ H env r Q A ev q er
  cases ev
  exact SA.of pa_nil (q _ rfl [] H GrM.refl .nil)
theorem ls_cons {e : X} {es : XL} {x : Expr} {l : List Expr} (he : ES ft k N tabs sc e x) (hs : starNo x = true) (hl : LS ft k N tabs sc es l) : LS ft k N tabs sc (.cons e es) (x :: l) := by
  intro X W Fb σ H env r Q A ev q er
  refine SA.of (pa_cons pe_S pa_S (star_eq hs)) ?_
  rcases bnd_inv ev with ⟨c, e1, rfl⟩ | ⟨⟨kd, d⟩, e1, e2⟩
  · exact he X W Fb σ H env _ _ A e1 (fun _ z => by cases z) (errTo er)
  · refine he X W Fb σ H env _ _ A e1 (fun p z v H2 g vr => ?_) (fun _ z => by cases z)
    cases z
    rcases bnd_inv e2 with ⟨c, e3, rfl⟩ | ⟨⟨f, ds⟩, e3, e4⟩
    · exact hl X W Fb σ H2 env _ _ (A.gr g) e3 (fun _ z => by cases z) (fun c z => (errTo er c z).gr g)
    · cases e4
      refine hl X W Fb σ H2 env _ _ (A.gr g) e3 (fun p z vs H3 g3 vr3 => ?_) (fun _ z => by cases z)
      cases z
      have fb := A.fb.gr (g.trans g3)
      exact q _ rfl (v :: vs) H3 (g.trans g3) (.cons ((vr.1.gr g3).less (fb.up and_up.1)) (vr3.less (fb.up and_up.2)))
theorem lbs_cons {e : X} {es : XL} {x : Expr} {l : List Expr} (he : BS ft k N tabs sc e x) (hs : starNo x = true) (hl : LBS ft k N tabs sc es l) : LBS ft k N tabs sc (.cons e es) (x :: l) := by
  intro X W Fb σ H env r Q A ev q er
  refine SA.of (pa_cons pe_S pa_S (star_eq hs)) ?_
  rcases bnd_inv ev with ⟨c, e1, rfl⟩ | ⟨d, e1, e2⟩
  · exact he X W Fb σ H env _ _ A e1 (fun _ z => by cases z) (errTo er)
  · refine he X W Fb σ H env _ _ A e1 (fun p z v H2 g vr => ?_) (fun _ z => by cases z)
    cases z
    rcases bnd_inv e2 with ⟨c, e3, rfl⟩ | ⟨ds, e3, e4⟩
    · exact hl X W Fb σ H2 env _ _ (A.gr g) e3 (fun _ z => by cases z) (fun c z => (errTo er c z).gr g)
    · cases e4
      refine hl X W Fb σ H2 env _ _ (A.gr g) e3 (fun p z vs H3 g3 vr3 => ?_) (fun _ z => by cases z)
      cases z
      exact q _ rfl (v :: vs) H3 (g.trans g3) (.cons (vr.gr g3) vr3)
theorem es_tup {es : XL} {l : List Expr} {j : Nat} {pos : Pos} (hl : LS ft k N tabs sc es l) : ES ft k N tabs sc (.tup es) (.Tuple l j pos) := by
  intro X W Fb σ H env r Q A ev q er
  refine SE.of (pe_tup pa_S) ?_
  rcases bnd_inv ev with ⟨c, e1, rfl⟩ | ⟨⟨f, ds⟩, e1, e2⟩
  · exact hl X W Fb σ H env _ _ A e1 (fun _ z => by cases z) (errTo er)
  · refine hl X W Fb σ H env _ _ A e1 (fun p z vs H2 g vr => ?_) (fun _ z => by cases z)
    cases z
    split at e2
    · rename_i c
      cases e2
      refine ⟨by rw [vr.length]; exact lenOk_sz c, fun p hp => q _ rfl _ _ (g.trans (Gr.new hp)) (VR.back (VR.tup hp vr) g)⟩
    · cases e2
theorem es_lst {es : XL} {l : List Expr} {pos : Pos} (hl : LS ft k N tabs sc es l) : ES ft k N tabs sc (.lst es) (.List l pos) := by
  intro X W Fb σ H env r Q A ev q er
  refine SE.of (pe_lst pa_S) ?_
  rcases bnd_inv ev with ⟨c, e1, rfl⟩ | ⟨⟨f, ds⟩, e1, e2⟩
  · exact hl X W Fb σ H env _ _ A e1 (fun _ z => by cases z) (errTo er)
  · refine hl X W Fb σ H env _ _ A e1 (fun p z vs H2 g vr => ?_) (fun _ z => by cases z)
    cases z
    split at e2
    · rename_i c
      cases e2
      refine ⟨by rw [vr.length]; exact lenOk_sz c, fun p hp => q _ rfl _ _ (g.trans (Gr.new hp)) (VR.back (VR.lst (A.fb.gr g) hp vr) g)⟩
    · cases e2
theorem es_dnew {pos : Pos} : ES ft k N tabs sc .dnew (.Dict [] [] pos) := by
  intro X W Fb σ H env r Q A ev q er
  cases ev
  refine SE.of pe_dnewK ?_
  intro p hp
  exact q _ rfl _ _ (Gr.new hp) (VR.dct A.fb hp .nil)
theorem es_bin {o : Operator} {a b : X} {ea eb : Expr} {pos : Pos} (ha : BS ft k N tabs sc a ea) (hb : BS ft k N tabs sc b eb) : ES ft k N tabs sc (.bin o a b) (.BinOp ea o eb pos) := by
  intro X W Fb σ H env r Q A ev q er
  rcases bnd_inv ev with ⟨c, e1, rfl⟩ | ⟨x, e1, e2⟩
  · exact SE.of (pe_op falseOp pe_S pe_S) (ha X W Fb σ H env _ _ A e1 (fun _ z => by cases z) (errTo er))
  · rcases bnd_inv e2 with ⟨c, e3, rfl⟩ | ⟨y, e3, e4⟩
    · refine SE.of (pe_op falseOp pe_S pe_S) (ha X W Fb σ H env _ _ A e1 (fun p z v H2 g vr => ?_) (fun _ z => by cases z))
      exact hb X W Fb σ H2 env _ _ (A.gr g) e3 (fun _ z => by cases z) (fun c z => (errTo er c z).gr g)
    · obtain ⟨⟨kd, z⟩, e5, rfl⟩ := lift_inv e4
      obtain ⟨r2, ho, hr⟩ := bin_ok (X := X) (Fb := Fb) e5
      refine SE.of (pe_op ho pe_S pe_S) (ha X W Fb σ H env _ _ A e1 (fun p z v H2 g vr => ?_) (fun _ z => by cases z))
      cases z
      refine hb X W Fb σ H2 env _ _ (A.gr g) e3 (fun p z w H3 g3 vr3 => ?_) (fun _ z => by cases z)
      cases z
      exact hr H3 v w Q (A.fb.gr (g.trans g3)) (vr.gr g3) vr3 fun u H4 g4 vr4 => q _ rfl u H4 ((g.trans g3).trans g4) (vr4.back (g.trans g3))
theorem vr_bool {H1 H2 : Hp} {b : Bool} : VR K Fb H1 H2 ⟨false, true⟩ (.bl b) (.bool b) := VR.sc (f := true) (.bl b) rfl
theorem es_cmp {o : CmpOp} {a b : X} {ea eb : Expr} {pos : Pos} (hm : behindInMarks o eb = false) (ha : BS ft k N tabs sc a ea) (hb : BS ft k N tabs sc b eb) : ES ft k N tabs sc (.cmp o a b) (.Compare ea [o] [eb] pos) := by
  intro X W Fb σ H env r Q A ev q er
  rcases bnd_inv ev with ⟨c, e1, rfl⟩ | ⟨x, e1, e2⟩
  · exact SE.of (pe_cmpR falseOp pe_S pe_S hm) (ha X W Fb σ H env _ _ A e1 (fun _ z => by cases z) (errTo er))
  · rcases bnd_inv e2 with ⟨c, e3, rfl⟩ | ⟨y, e3, e4⟩
    · refine SE.of (pe_cmpR falseOp pe_S pe_S hm) (ha X W Fb σ H env _ _ A e1 (fun p z v H2 g vr => ?_) (fun _ z => by cases z))
      exact hb X W Fb σ H2 env _ _ (A.gr g) e3 (fun _ z => by cases z) (fun c z => (errTo er c z).gr g)
    · obtain ⟨z, e5, rfl⟩ := lift_inv e4
      cases e6 : cmpE o x y with
      | none => rw [e6] at e5; cases e5
      | some t =>
        rw [e6] at e5; cases e5
        obtain ⟨r2, ho, hr⟩ := cmp_ok (X := X) (Fb := Fb) (hu_of' A.gc.room) e6
        refine SE.of (pe_cmpR ho pe_S pe_S hm) (ha X W Fb σ H env _ _ A e1 (fun p z v H2 g vr => ?_) (fun _ z => by cases z))
        cases z
        refine hb X W Fb σ H2 env _ _ (A.gr g) e3 (fun p z w H3 g3 vr3 => ?_) (fun _ z => by cases z)
        cases z
        exact hr H3 v w Q (vr.gr g3) vr3 (q _ rfl _ H3 (g.trans g3) vr_bool)
theorem ts_cmp {o : CmpOp} {a b : X} {ea eb : Expr} {pos : Pos} (hm : behindInMarks o eb = false) (ha : BS ft k N tabs sc a ea) (hb : BS ft k N tabs sc b eb) : TS' ft k N tabs sc (.cmp o a b) (.Compare ea [o] [eb] pos) := by
  intro X W Fb σ H env r Q A ev q er
  have h := es_cmp (pos := pos) hm ha hb
  rcases bnd_inv ev with ⟨c, e0, rfl⟩ | ⟨p, e0, e00⟩
  · rcases bnd_inv e0 with ⟨c2, e1, z⟩ | ⟨x, e1, e2⟩
    · cases z
      rcases bnd_inv e1 with ⟨c, e1, z⟩ | ⟨x, e1, e2⟩
      · cases z
        exact ST.of (pt_cmpR falseOp pe_S pe_S hm) (ha X W Fb σ H env _ _ A e1 (fun _ z => by cases z) (errTo er))
      · rcases bnd_inv e2 with ⟨c, e3, z⟩ | ⟨y, e3, e4⟩
        · cases z
          refine ST.of (pt_cmpR falseOp pe_S pe_S hm) (ha X W Fb σ H env _ _ A e1 (fun p z v H2 g vr => ?_) (fun _ z => by cases z))
          exact hb X W Fb σ H2 env _ _ (A.gr g) e3 (fun _ z => by cases z) (fun c z => (errTo er c z).gr g)
        · obtain ⟨z, e5, z2⟩ := lift_inv e4
          cases z2
    · cases e2
  · rcases bnd_inv e0 with ⟨c2, e1, z⟩ | ⟨x, e1, e2⟩
    · cases z
    · cases e2
      rcases bnd_inv e1 with ⟨c, e1, z⟩ | ⟨y, e3, e4⟩
      · cases z
      · rcases bnd_inv e4 with ⟨c, e1, z⟩ | ⟨y2, e5, e6⟩
        · cases z
        · obtain ⟨z, e7, z2⟩ := lift_inv e6
          cases z2
          cases e8 : cmpE o y y2 with
          | none => rw [e8] at e7; cases e7
          | some t =>
            rw [e8] at e7; cases e7
            obtain ⟨b2, eb2, rfl⟩ := lift_inv e00
            cases eb2
            obtain ⟨r2, ho, hr⟩ := cmp_ok (X := X) (Fb := Fb) (hu_of' A.gc.room) e8
            refine ST.of (pt_cmpR ho pe_S pe_S hm) (ha X W Fb σ H env _ _ A e3 (fun p z v H2 g vr => ?_) (fun _ z => by cases z))
            cases z
            refine hb X W Fb σ H2 env _ _ (A.gr g) e5 (fun p z w H3 g3 vr3 => ?_) (fun _ z => by cases z)
            cases z
            exact hr H3 v w _ (vr.gr g3) vr3 ⟨_, rfl, q _ rfl H3 (g.trans g3)⟩
end R
namespace R
open PySem PySem.Spec PyProof.Rows L2
variable {K : PySem.W.Frag} {H H1 H2 H3 : Hp} {O O' M : Addr → Prop} {Fb : Bool → Addr → Prop}
variable {ft : FT} {k : Nat} {N : List Str} {tabs : List Addr} {sc : Scope}
/-- a test whose value is a bool that evE tells -/
theorem tr_inv {x : X} {env : Env1} {r : Except Str Bool} (hx : ∀ i, x ≠ .v i) (h : trE (brw env x (evE ft x env)) = some r) :
    (∃ c, evE ft x env = some (.error c) ∧ r = .error c) ∨ ∃ kd d b, evE ft x env = some (.ok (kd, d)) ∧ truthE d = some b ∧ r = .ok b := by
  have eb : brw env x (evE ft x env) = toB (evE ft x env) := by
    unfold brw
    split
    · exact absurd rfl (hx _)
    · rfl
  rw [eb] at h
  rcases bnd_inv h with ⟨c, e1, rfl⟩ | ⟨p, e1, e2⟩
  · rcases bnd_inv e1 with ⟨c2, e3, z⟩ | ⟨p, e3, e4⟩
    · cases z; exact .inl ⟨c, e3, rfl⟩
    · cases e4
  · rcases bnd_inv e1 with ⟨c2, e3, z⟩ | ⟨⟨kd, d⟩, e3, e4⟩
    · cases z
    · cases e4
      obtain ⟨b, e5, rfl⟩ := lift_inv e2
      exact .inr ⟨kd, d, b, e3, e5, rfl⟩
/-- from a bool's value to its test -/
theorem tr_of {x : X} {env : Env1} {kd : Kd} {t : Bool} (h : evE ft x env = some (.ok (kd, .bool t))) : trE (brw env x (evE ft x env)) = some (.ok t) := by
  unfold brw
  split
  · rename_i i
    obtain ⟨p, e1, e2⟩ := lift_inv (show lift (slotV env[i]?) = _ from h)
    cases e2
    cases sl : env[i]? with
    | none => rw [sl] at e1; cases e1
    | some s0 =>
      rw [sl] at e1
      cases s0 with
      | no => cases e1
      | sh f d => cases e1; rfl
      | ow n f d => cases e1
  · rw [h]; rfl
theorem tr_err {x : X} {env : Env1} {c : Str} (h : evE ft x env = some (.error c)) : trE (brw env x (evE ft x env)) = some (.error c) := by
  unfold brw
  split
  · rename_i i
    obtain ⟨p, e1, e2⟩ := lift_inv (show lift (slotV env[i]?) = _ from h)
    cases e2
  · rw [h]; rfl
theorem es_ch {o o' : CmpOp} {a b c : X} {ea eb ec : Expr} {pos : Pos} (hm : lastMarks [o, o'] [eb, ec] = false) (ha : BS ft k N tabs sc a ea) (hb : BS ft k N tabs sc b eb) (hc : BS ft k N tabs sc c ec) : ES ft k N tabs sc (.ch o o' a b c) (.Compare ea [o, o'] [eb, ec] pos) := by
  intro X W Fb σ H env r Q A ev q er
  rcases bnd_inv ev with ⟨c, e1, rfl⟩ | ⟨x, e1, e2⟩
  · exact SE.of (pe_chain falseOp falseOp pe_S pe_S pe_S hm) (ha X W Fb σ H env _ _ A e1 (fun _ z => by cases z) (errTo er))
  · rcases bnd_inv e2 with ⟨c, e3, rfl⟩ | ⟨y, e3, e4⟩
    · refine SE.of (pe_chain falseOp falseOp pe_S pe_S pe_S hm) (ha X W Fb σ H env _ _ A e1 (fun p z v H2 g vr => ?_) (fun _ z => by cases z))
      exact hb X W Fb σ H2 env _ _ (A.gr g) e3 (fun _ z => by cases z) (fun c z => (errTo er c z).gr g)
    · rcases bnd_inv e4 with ⟨c, e5, rfl⟩ | ⟨t, e5, e6⟩
      · obtain ⟨t, _, z⟩ := lift_inv e5
        cases z
      · obtain ⟨t2, e7, z⟩ := lift_inv e5
        cases z
        obtain ⟨r2, ho, hr⟩ := cmp_ok (X := X) (Fb := Fb) (hu_of' A.gc.room) e7
        cases t with
        | false =>
          cases e6
          refine SE.of (pe_chain ho falseOp pe_S pe_S pe_S hm) (ha X W Fb σ H env _ _ A e1 (fun p z v H2 g vr => ?_) (fun _ z => by cases z))
          cases z
          refine hb X W Fb σ H2 env _ _ (A.gr g) e3 (fun p z w H3 g3 vr3 => ?_) (fun _ z => by cases z)
          cases z
          exact hr H3 v w _ (vr.gr g3) vr3 ⟨false, rfl, iteF (q _ rfl _ H3 (g.trans g3) vr_bool)⟩
        | true =>
          rw [if_pos rfl] at e6
          rcases bnd_inv e6 with ⟨c, e8, rfl⟩ | ⟨z3, e8, e9⟩
          · refine SE.of (pe_chain ho falseOp pe_S pe_S pe_S hm) (ha X W Fb σ H env _ _ A e1 (fun p z v H2 g vr => ?_) (fun _ z => by cases z))
            cases z
            refine hb X W Fb σ H2 env _ _ (A.gr g) e3 (fun p z w H3 g3 vr3 => ?_) (fun _ z => by cases z)
            cases z
            exact hr H3 v w _ (vr.gr g3) vr3 ⟨true, rfl, iteT (hc X W Fb σ H3 env _ _ (A.gr (g.trans g3)) e8 (fun _ z => by cases z) (fun c z => (errTo er c z).gr (g.trans g3)))⟩
          · obtain ⟨z4, e10, rfl⟩ := lift_inv e9
            cases e11 : cmpE o' y z3 with
            | none => rw [e11] at e10; cases e10
            | some t3 =>
              rw [e11] at e10; cases e10
              obtain ⟨r3, ho3, hr3⟩ := cmp_ok (X := X) (Fb := Fb) (hu_of' A.gc.room) e11
              refine SE.of (pe_chain ho ho3 pe_S pe_S pe_S hm) (ha X W Fb σ H env _ _ A e1 (fun p z v H2 g vr => ?_) (fun _ z => by cases z))
              cases z
              refine hb X W Fb σ H2 env _ _ (A.gr g) e3 (fun p z w H3 g3 vr3 => ?_) (fun _ z => by cases z)
              cases z
              refine hr H3 v w _ (vr.gr g3) vr3 ⟨true, rfl, iteT (hc X W Fb σ H3 env _ _ (A.gr (g.trans g3)) e8 (fun p z u H4 g4 vr4 => ?_) (fun _ z => by cases z))⟩
              cases z
              exact hr3 H4 w u _ (vr3.gr g4) vr4 (q _ rfl _ H4 ((g.trans g3).trans g4) vr_bool)
theorem ts_ch {o o' : CmpOp} {a b c : X} {ea eb ec : Expr} {pos : Pos} (hm : lastMarks [o, o'] [eb, ec] = false) (ha : BS ft k N tabs sc a ea) (hb : BS ft k N tabs sc b eb) (hc : BS ft k N tabs sc c ec) : TS' ft k N tabs sc (.ch o o' a b c) (.Compare ea [o, o'] [eb, ec] pos) := by
  intro X W Fb σ H env r0 Q A ev0 q er
  have main : ∀ r, evE ft (.ch o o' a b c) env = some r → (∀ kd t, r = .ok (kd, .bool t) → ∀ H2, Gr H H2 → Q t H2) → (∀ c, r = .error c → ErrOk X W σ H c) → ST X (.Compare ea [o, o'] [eb, ec] pos) σ H Q := by
    intro r ev q er
    rcases bnd_inv ev with ⟨c, e1, rfl⟩ | ⟨x, e1, e2⟩
    · exact ST.of (pt_chain falseOp falseOp pe_S pe_S pe_S hm) (ha X W Fb σ H env _ _ A e1 (fun _ z => by cases z) (errTo er))
    · rcases bnd_inv e2 with ⟨c, e3, rfl⟩ | ⟨y, e3, e4⟩
      · refine ST.of (pt_chain falseOp falseOp pe_S pe_S pe_S hm) (ha X W Fb σ H env _ _ A e1 (fun p z v H2 g vr => ?_) (fun _ z => by cases z))
        exact hb X W Fb σ H2 env _ _ (A.gr g) e3 (fun _ z => by cases z) (fun c z => (errTo er c z).gr g)
      · rcases bnd_inv e4 with ⟨c, e5, rfl⟩ | ⟨t, e5, e6⟩
        · obtain ⟨t, _, z⟩ := lift_inv e5
          cases z
        · obtain ⟨t2, e7, z⟩ := lift_inv e5
          cases z
          obtain ⟨r2, ho, hr⟩ := cmp_ok (X := X) (Fb := Fb) (hu_of' A.gc.room) e7
          cases t with
          | false =>
            cases e6
            refine ST.of (pt_chain ho falseOp pe_S pe_S pe_S hm) (ha X W Fb σ H env _ _ A e1 (fun p z v H2 g vr => ?_) (fun _ z => by cases z))
            cases z
            refine hb X W Fb σ H2 env _ _ (A.gr g) e3 (fun p z w H3 g3 vr3 => ?_) (fun _ z => by cases z)
            cases z
            exact hr H3 v w _ (vr.gr g3) vr3 ⟨false, rfl, iteF ⟨_, rfl, q _ _ rfl H3 (g.trans g3)⟩⟩
          | true =>
            rw [if_pos rfl] at e6
            rcases bnd_inv e6 with ⟨c, e8, rfl⟩ | ⟨z3, e8, e9⟩
            · refine ST.of (pt_chain ho falseOp pe_S pe_S pe_S hm) (ha X W Fb σ H env _ _ A e1 (fun p z v H2 g vr => ?_) (fun _ z => by cases z))
              cases z
              refine hb X W Fb σ H2 env _ _ (A.gr g) e3 (fun p z w H3 g3 vr3 => ?_) (fun _ z => by cases z)
              cases z
              exact hr H3 v w _ (vr.gr g3) vr3 ⟨true, rfl, iteT (hc X W Fb σ H3 env _ _ (A.gr (g.trans g3)) e8 (fun _ z => by cases z) (fun c z => (errTo er c z).gr (g.trans g3)))⟩
            · obtain ⟨z4, e10, rfl⟩ := lift_inv e9
              cases e11 : cmpE o' y z3 with
              | none => rw [e11] at e10; cases e10
              | some t3 =>
                rw [e11] at e10; cases e10
                obtain ⟨r3, ho3, hr3⟩ := cmp_ok (X := X) (Fb := Fb) (hu_of' A.gc.room) e11
                refine ST.of (pt_chain ho ho3 pe_S pe_S pe_S hm) (ha X W Fb σ H env _ _ A e1 (fun p z v H2 g vr => ?_) (fun _ z => by cases z))
                cases z
                refine hb X W Fb σ H2 env _ _ (A.gr g) e3 (fun p z w H3 g3 vr3 => ?_) (fun _ z => by cases z)
                cases z
                refine hr H3 v w _ (vr.gr g3) vr3 ⟨true, rfl, iteT (hc X W Fb σ H3 env _ _ (A.gr (g.trans g3)) e8 (fun p z u H4 g4 vr4 => ?_) (fun _ z => by cases z))⟩
                cases z
                exact hr3 H4 w u _ (vr3.gr g4) vr4 ⟨_, rfl, q _ _ rfl H4 ((g.trans g3).trans g4)⟩
  rcases tr_inv (fun i z => by cases z) ev0 with ⟨c, e1, rfl⟩ | ⟨kd, d, b, e1, e2, rfl⟩
  · exact main _ e1 (fun _ _ z => by cases z) (errTo er)
  · refine main _ e1 (fun kd' t z H2 g => ?_) (fun _ z => by cases z)
    cases z
    cases e2
    exact q _ rfl H2 g
theorem es_and {a b : X} {ea eb : Expr} {pos : Pos} (ha : ES ft k N tabs sc a ea) (hb : ES ft k N tabs sc b eb) : ES ft k N tabs sc (.and a b) (.BoolOp .And [ea, eb] pos) := by
  intro X W Fb σ H env r Q A ev q er
  refine SE.of (pe_and pe_S (pe_one pe_S)) ?_
  rcases bnd_inv ev with ⟨c, e1, rfl⟩ | ⟨⟨kd, d⟩, e1, e2⟩
  · exact ha X W Fb σ H env _ _ A e1 (fun _ z => by cases z) (errTo er)
  · refine ha X W Fb σ H env _ _ A e1 (fun p z v H2 g vr => ?_) (fun _ z => by cases z)
    cases z
    cases d with
    | bool t =>
      refine ⟨t, Bw.bool (.sh vr.1), ?_⟩
      cases t with
      | true => exact iteT (hb X W Fb σ H2 env _ _ (A.gr g) e2 (fun p z v H3 g3 vr3 => q p z v H3 (g.trans g3) (vr3.back g)) (fun c z => (er c z).gr g))
      | false => cases e2; exact iteF (q _ rfl _ H2 g vr_bool)
    | _ => cases e2
theorem es_or {a b : X} {ea eb : Expr} {pos : Pos} (ha : ES ft k N tabs sc a ea) (hb : ES ft k N tabs sc b eb) : ES ft k N tabs sc (.or a b) (.BoolOp .Or [ea, eb] pos) := by
  intro X W Fb σ H env r Q A ev q er
  refine SE.of (pe_or pe_S (pe_one pe_S)) ?_
  rcases bnd_inv ev with ⟨c, e1, rfl⟩ | ⟨⟨kd, d⟩, e1, e2⟩
  · exact ha X W Fb σ H env _ _ A e1 (fun _ z => by cases z) (errTo er)
  · refine ha X W Fb σ H env _ _ A e1 (fun p z v H2 g vr => ?_) (fun _ z => by cases z)
    cases z
    cases d with
    | bool t =>
      refine ⟨t, Bw.bool (.sh vr.1), ?_⟩
      cases t with
      | false => exact iteF (hb X W Fb σ H2 env _ _ (A.gr g) e2 (fun p z v H3 g3 vr3 => q p z v H3 (g.trans g3) (vr3.back g)) (fun c z => (er c z).gr g))
      | true => cases e2; exact iteT (q _ rfl _ H2 g vr_bool)
    | _ => cases e2
theorem tr_ok {x : X} {env : Env1} {kd : Kd} {d : D} {b : Bool} (e5 : evE ft x env = some (.ok (kd, d))) (e2 : truthE d = some b) : trE (brw env x (evE ft x env)) = some (.ok b) := by
  unfold brw
  split
  · rename_i i
    obtain ⟨p, e6, e7⟩ := lift_inv (show lift (slotV env[i]?) = _ from e5)
    cases e7
    cases sl : env[i]? with
    | none => rw [sl] at e6; cases e6
    | some s0 =>
      rw [sl] at e6
      cases s0 with
      | no => cases e6
      | sh f d =>
        cases e6
        show lift (truthE _) = _
        rw [e2]; rfl
      | ow n f d => cases e6
  · rw [e5]
    show lift (truthE d) = _
    rw [e2]; rfl
theorem ts_and {a b : X} {ea eb : Expr} {pos : Pos} (ha : TS' ft k N tabs sc a ea) (hb : TS' ft k N tabs sc b eb) : TS' ft k N tabs sc (.and a b) (.BoolOp .And [ea, eb] pos) := by
  intro X W Fb σ H env r Q A ev q er
  refine ST.of (PW.pt (pw_and pt_S (pw_and1 pt_S))) ?_
  rcases tr_inv (fun i z => by cases z) ev with ⟨c, e1, rfl⟩ | ⟨kd, d, b', e1, e2, rfl⟩
  · rcases bnd_inv e1 with ⟨c2, e3, z⟩ | ⟨⟨kd, d⟩, e3, e4⟩
    · cases z
      exact ha X W Fb σ H env _ _ A (tr_err e3) (fun _ z => by cases z) (errTo er)
    · cases d with
      | bool t =>
        cases t with
        | false => cases e4
        | true =>
          refine ha X W Fb σ H env _ _ A (tr_of e3) (fun p z H2 g => ?_) (fun _ z => by cases z)
          cases z
          exact iteT (hb X W Fb σ H2 env _ _ (A.gr g) (tr_err e4) (fun _ z => by cases z) (fun c z => (errTo er c z).gr g))
      | _ => cases e4
  · rcases bnd_inv e1 with ⟨c2, e3, z⟩ | ⟨⟨kd2, d2⟩, e3, e4⟩
    · cases z
    · cases d2 with
      | bool t =>
        refine ha X W Fb σ H env _ _ A (tr_of e3) (fun p z H2 g => ?_) (fun _ z => by cases z)
        cases z
        cases t with
        | false => cases e4; cases e2; exact iteF (q _ rfl H2 g)
        | true =>
          exact iteT (hb X W Fb σ H2 env (.ok b') _ (A.gr g) (tr_ok e4 e2) (fun p z H3 g3 => q p z H3 (g.trans g3)) (fun c z => (er c z).gr g))
      | _ => cases e4
theorem ts_or {a b : X} {ea eb : Expr} {pos : Pos} (ha : TS' ft k N tabs sc a ea) (hb : TS' ft k N tabs sc b eb) : TS' ft k N tabs sc (.or a b) (.BoolOp .Or [ea, eb] pos) := by
  intro X W Fb σ H env r Q A ev q er
  refine ST.of (PW.pt (pw_or pt_S (pw_or1 pt_S))) ?_
  rcases tr_inv (fun i z => by cases z) ev with ⟨c, e1, rfl⟩ | ⟨kd, d, b', e1, e2, rfl⟩
  · rcases bnd_inv e1 with ⟨c2, e3, z⟩ | ⟨⟨kd, d⟩, e3, e4⟩
    · cases z
      exact ha X W Fb σ H env _ _ A (tr_err e3) (fun _ z => by cases z) (errTo er)
    · cases d with
      | bool t =>
        cases t with
        | true => cases e4
        | false =>
          refine ha X W Fb σ H env _ _ A (tr_of e3) (fun p z H2 g => ?_) (fun _ z => by cases z)
          cases z
          exact iteF (hb X W Fb σ H2 env _ _ (A.gr g) (tr_err e4) (fun _ z => by cases z) (fun c z => (errTo er c z).gr g))
      | _ => cases e4
  · rcases bnd_inv e1 with ⟨c2, e3, z⟩ | ⟨⟨kd2, d2⟩, e3, e4⟩
    · cases z
    · cases d2 with
      | bool t =>
        refine ha X W Fb σ H env _ _ A (tr_of e3) (fun p z H2 g => ?_) (fun _ z => by cases z)
        cases z
        cases t with
        | true => cases e4; cases e2; exact iteT (q _ rfl H2 g)
        | false => exact iteF (hb X W Fb σ H2 env (.ok b') _ (A.gr g) (tr_ok e4 e2) (fun p z H3 g3 => q p z H3 (g.trans g3)) (fun c z => (er c z).gr g))
      | _ => cases e4
theorem es_andN {a b : X} {ea eb : Expr} {rest : List Expr} {pos : Pos} (ha : ES ft k N tabs sc a ea) (hb : ES ft k N tabs sc b (.BoolOp .And (eb :: rest) pos)) : ES ft k N tabs sc (.and a b) (.BoolOp .And (ea :: eb :: rest) pos) := by
  intro X W Fb σ H env r Q A ev q er
  refine SE.of (pe_and pe_S pe_S) ?_
  rcases bnd_inv ev with ⟨c, e1, rfl⟩ | ⟨⟨kd, d⟩, e1, e2⟩
  · exact ha X W Fb σ H env _ _ A e1 (fun _ z => by cases z) (errTo er)
  · refine ha X W Fb σ H env _ _ A e1 (fun p z v H2 g vr => ?_) (fun _ z => by cases z)
    cases z
    cases d with
    | bool t =>
      refine ⟨t, Bw.bool (.sh vr.1), ?_⟩
      cases t with
      | true => exact iteT (hb X W Fb σ H2 env _ _ (A.gr g) e2 (fun p z v H3 g3 vr3 => q p z v H3 (g.trans g3) (vr3.back g)) (fun c z => (er c z).gr g))
      | false => cases e2; exact iteF (q _ rfl _ H2 g vr_bool)
    | _ => cases e2
theorem es_orN {a b : X} {ea eb : Expr} {rest : List Expr} {pos : Pos} (ha : ES ft k N tabs sc a ea) (hb : ES ft k N tabs sc b (.BoolOp .Or (eb :: rest) pos)) : ES ft k N tabs sc (.or a b) (.BoolOp .Or (ea :: eb :: rest) pos) := by
  intro X W Fb σ H env r Q A ev q er
  refine SE.of (pe_or pe_S pe_S) ?_
  rcases bnd_inv ev with ⟨c, e1, rfl⟩ | ⟨⟨kd, d⟩, e1, e2⟩
  · exact ha X W Fb σ H env _ _ A e1 (fun _ z => by cases z) (errTo er)
  · refine ha X W Fb σ H env _ _ A e1 (fun p z v H2 g vr => ?_) (fun _ z => by cases z)
    cases z
    cases d with
    | bool t =>
      refine ⟨t, Bw.bool (.sh vr.1), ?_⟩
      cases t with
      | false => exact iteF (hb X W Fb σ H2 env _ _ (A.gr g) e2 (fun p z v H3 g3 vr3 => q p z v H3 (g.trans g3) (vr3.back g)) (fun c z => (er c z).gr g))
      | true => cases e2; exact iteT (q _ rfl _ H2 g vr_bool)
    | _ => cases e2
theorem pw_of {X : Cx} {op : BoolOp} {es : List Expr} {pos : Pos} {t : TT} (h : PT X (.BoolOp op es pos) t) : PW X (.BoolOp op es pos) t := ⟨fun wh pins s σ H Q I hw => h.run pins s σ H Q I hw⟩
theorem ts_andN {a b : X} {ea eb : Expr} {rest : List Expr} {pos : Pos} (ha : TS' ft k N tabs sc a ea) (hb : TS' ft k N tabs sc b (.BoolOp .And (eb :: rest) pos)) : TS' ft k N tabs sc (.and a b) (.BoolOp .And (ea :: eb :: rest) pos) := by
  intro X W Fb σ H env r Q A ev q er
  refine ST.of (PW.pt (pw_and pt_S (pw_of pt_S))) ?_
  rcases tr_inv (fun i z => by cases z) ev with ⟨c, e1, rfl⟩ | ⟨kd, d, b', e1, e2, rfl⟩
  · rcases bnd_inv e1 with ⟨c2, e3, z⟩ | ⟨⟨kd, d⟩, e3, e4⟩
    · cases z
      exact ha X W Fb σ H env _ _ A (tr_err e3) (fun _ z => by cases z) (errTo er)
    · cases d with
      | bool t =>
        cases t with
        | false => cases e4
        | true =>
          refine ha X W Fb σ H env _ _ A (tr_of e3) (fun p z H2 g => ?_) (fun _ z => by cases z)
          cases z
          exact iteT (hb X W Fb σ H2 env _ _ (A.gr g) (tr_err e4) (fun _ z => by cases z) (fun c z => (errTo er c z).gr g))
      | _ => cases e4
  · rcases bnd_inv e1 with ⟨c2, e3, z⟩ | ⟨⟨kd2, d2⟩, e3, e4⟩
    · cases z
    · cases d2 with
      | bool t =>
        refine ha X W Fb σ H env _ _ A (tr_of e3) (fun p z H2 g => ?_) (fun _ z => by cases z)
        cases z
        cases t with
        | false => cases e4; cases e2; exact iteF (q _ rfl H2 g)
        | true =>
          exact iteT (hb X W Fb σ H2 env (.ok b') _ (A.gr g) (tr_ok e4 e2) (fun p z H3 g3 => q p z H3 (g.trans g3)) (fun c z => (er c z).gr g))
      | _ => cases e4
theorem ts_orN {a b : X} {ea eb : Expr} {rest : List Expr} {pos : Pos} (ha : TS' ft k N tabs sc a ea) (hb : TS' ft k N tabs sc b (.BoolOp .Or (eb :: rest) pos)) : TS' ft k N tabs sc (.or a b) (.BoolOp .Or (ea :: eb :: rest) pos) := by
  intro X W Fb σ H env r Q A ev q er
  refine ST.of (PW.pt (pw_or pt_S (pw_of pt_S))) ?_
  rcases tr_inv (fun i z => by cases z) ev with ⟨c, e1, rfl⟩ | ⟨kd, d, b', e1, e2, rfl⟩
  · rcases bnd_inv e1 with ⟨c2, e3, z⟩ | ⟨⟨kd, d⟩, e3, e4⟩
    · cases z
      exact ha X W Fb σ H env _ _ A (tr_err e3) (fun _ z => by cases z) (errTo er)
    · cases d with
      | bool t =>
        cases t with
        | true => cases e4
        | false =>
          refine ha X W Fb σ H env _ _ A (tr_of e3) (fun p z H2 g => ?_) (fun _ z => by cases z)
          cases z
          exact iteF (hb X W Fb σ H2 env _ _ (A.gr g) (tr_err e4) (fun _ z => by cases z) (fun c z => (errTo er c z).gr g))
      | _ => cases e4
  · rcases bnd_inv e1 with ⟨c2, e3, z⟩ | ⟨⟨kd2, d2⟩, e3, e4⟩
    · cases z
    · cases d2 with
      | bool t =>
        refine ha X W Fb σ H env _ _ A (tr_of e3) (fun p z H2 g => ?_) (fun _ z => by cases z)
        cases z
        cases t with
        | true => cases e4; cases e2; exact iteT (q _ rfl H2 g)
        | false => exact iteF (hb X W Fb σ H2 env (.ok b') _ (A.gr g) (tr_ok e4 e2) (fun p z H3 g3 => q p z H3 (g.trans g3)) (fun c z => (er c z).gr g))
      | _ => cases e4
theorem es_not {a : X} {ea : Expr} {pos : Pos} (ha : BS ft k N tabs sc a ea) : ES ft k N tabs sc (.not a) (.UnaryOp .Not ea pos) := by
  intro X W Fb σ H env r Q A ev q er
  refine SE.of (pe_notT pe_S) ?_
  rcases bnd_inv ev with ⟨c, e1, rfl⟩ | ⟨t, e1, e2⟩
  · rcases bnd_inv e1 with ⟨c2, e3, z⟩ | ⟨p, e3, e4⟩
    · cases z
      exact ha X W Fb σ H env _ _ A e3 (fun _ z => by cases z) (errTo er)
    · obtain ⟨b, _, z⟩ := lift_inv e4
      cases z
  · cases e2
    rcases bnd_inv e1 with ⟨c2, e3, z⟩ | ⟨p, e3, e4⟩
    · cases z
    · obtain ⟨b, e5, z⟩ := lift_inv e4
      cases z
      refine ha X W Fb σ H env _ _ A e3 (fun p z v H2 g vr => ?_) (fun _ z => by cases z)
      cases z
      exact ⟨t, TruV.of e5 vr, q _ rfl _ H2 g vr_bool⟩
theorem ts_not {a : X} {ea : Expr} {pos : Pos} (ha : TS' ft k N tabs sc a ea) : TS' ft k N tabs sc (.not a) (.UnaryOp .Not ea pos) := by
  intro X W Fb σ H env r Q A ev q er
  refine ST.of (pt_not pt_S) ?_
  rcases tr_inv (fun i z => by cases z) ev with ⟨c, e1, rfl⟩ | ⟨kd, d, b', e1, e2, rfl⟩
  · rcases bnd_inv e1 with ⟨c2, e3, z⟩ | ⟨p, e3, e4⟩
    · cases z
      exact ha X W Fb σ H env _ _ A e3 (fun _ z => by cases z) (errTo er)
    · cases e4
  · rcases bnd_inv e1 with ⟨c2, e3, z⟩ | ⟨t, e3, e4⟩
    · cases z
    · cases e4
      cases e2
      refine ha X W Fb σ H env _ _ A e3 (fun p z H2 g => ?_) (fun _ z => by cases z)
      cases z
      exact q _ rfl H2 g
theorem pt_ife {X : Cx} {c a b : Expr} {tc ta tb : TT} {pos : Pos} (hc : PT X c tc) (ha : PT X a ta) (hb : PT X b tb) : PT X (.IfExp c a b pos) (fun σ H Q => tc σ H fun t H1 => if t = true then ta σ H1 Q else tb σ H1 Q) := by
  refine ⟨fun pins s σ H Q I h => ?_⟩
  show wpAny _ _ (do if ← isTrue c X.env (eval c X.env) then isTrue a X.env (eval a X.env) else isTrue b X.env (eval b X.env)) _ _ _
  refine wpAny_bind (thn (hc.run pins s σ H _ I h) fun t s1 ⟨H1, I1, q1⟩ => ?_)
  cases t with
  | true => exact ha.run pins s1 σ H1 Q I1 q1
  | false => exact hb.run pins s1 σ H1 Q I1 q1
theorem es_ife {c a b : X} {ec ea eb : Expr} {pos : Pos} (hc : TS' ft k N tabs sc c ec) (ha : ES ft k N tabs sc a ea) (hb : ES ft k N tabs sc b eb) : ES ft k N tabs sc (.ife c a b) (.IfExp ec ea eb pos) := by
  intro X W Fb σ H env r Q A ev q er
  refine SE.of (pe_ifExp pt_S pe_S pe_S) ?_
  rcases bnd_inv ev with ⟨c, e1, rfl⟩ | ⟨t, e1, e2⟩
  · exact hc X W Fb σ H env _ _ A e1 (fun _ z => by cases z) (errTo er)
  · refine hc X W Fb σ H env _ _ A e1 (fun p z H2 g => ?_) (fun _ z => by cases z)
    cases z
    cases t with
    | true => exact iteT (ha X W Fb σ H2 env _ _ (A.gr g) e2 (fun p z v H3 g3 vr3 => q p z v H3 (g.trans g3) (vr3.back g)) (fun c z => (er c z).gr g))
    | false => exact iteF (hb X W Fb σ H2 env _ _ (A.gr g) e2 (fun p z v H3 g3 vr3 => q p z v H3 (g.trans g3) (vr3.back g)) (fun c z => (er c z).gr g))
theorem ts_ife {c a b : X} {ec ea eb : Expr} {pos : Pos} (hc : TS' ft k N tabs sc c ec) (ha : TS' ft k N tabs sc a ea) (hb : TS' ft k N tabs sc b eb) : TS' ft k N tabs sc (.ife c a b) (.IfExp ec ea eb pos) := by
  intro X W Fb σ H env r Q A ev q er
  refine ST.of (pt_ife pt_S pt_S pt_S) ?_
  rcases tr_inv (fun i z => by cases z) ev with ⟨c, e1, rfl⟩ | ⟨kd, d, b', e1, e2, rfl⟩
  · rcases bnd_inv e1 with ⟨c2, e3, z⟩ | ⟨t, e3, e4⟩
    · cases z
      exact hc X W Fb σ H env _ _ A e3 (fun _ z => by cases z) (errTo er)
    · refine hc X W Fb σ H env _ _ A e3 (fun p z H2 g => ?_) (fun _ z => by cases z)
      cases z
      cases t with
      | true => exact iteT (ha X W Fb σ H2 env _ _ (A.gr g) (tr_err e4) (fun _ z => by cases z) (fun c z => (errTo er c z).gr g))
      | false => exact iteF (hb X W Fb σ H2 env _ _ (A.gr g) (tr_err e4) (fun _ z => by cases z) (fun c z => (errTo er c z).gr g))
  · rcases bnd_inv e1 with ⟨c2, e3, z⟩ | ⟨t, e3, e4⟩
    · cases z
    · refine hc X W Fb σ H env _ _ A e3 (fun p z H2 g => ?_) (fun _ z => by cases z)
      cases z
      cases t with
      | true => exact iteT (ha X W Fb σ H2 env _ _ (A.gr g) (tr_ok e4 e2) (fun p z H3 g3 => q p z H3 (g.trans g3)) (fun c z => (er c z).gr g))
      | false => exact iteF (hb X W Fb σ H2 env _ _ (A.gr g) (tr_ok e4 e2) (fun p z H3 g3 => q p z H3 (g.trans g3)) (fun c z => (er c z).gr g))
end R
namespace R
open PySem PySem.Spec PyProof.Rows L2
variable {K : PySem.W.Frag} {H H1 H2 H3 : Hp} {O O' M : Addr → Prop} {Fb : Bool → Addr → Prop}
variable {ft : FT} {k : Nat} {N : List Str} {tabs : List Addr} {sc : Scope}
/-! ### calls of the program's own defs -/
theorem pe_callS0 {X : Cx} {CX : CXT} {k : Nat} {f : Addr} {fd : FuncData} {ps : List Str} {sp : Sp} {E : L2.St → XK} {x : Str} {p pos : Pos}
    (F : FnOk X.prog X.w X.K X.mg X.base CX k f fd ps sp) (hr : Room k X.A) (hg : Gl X x) (hm : X.mg x = some (.ref f)) (hk : PySem.W.keepIn X.K (.ref f) = true) (hb : Binds X.K fd ps []) (hx : ∀ σ, PassesAt CX X σ (E σ))
    (hdb : (x == ("__debug__" : Str)) = false := by decide) : PE X (.Call (.Name x p) [] [] pos) (tCallS sp E tNil) := by
  refine ⟨fun pins s σ H Q I h => ?_⟩
  refine wpAny_Call_Name_kw (ld_glob I hg hm ?_ hdb)
  exact PySem.W.callWith_K0 I.kIn hk (run_fnS (us := []) F hr hb (hx σ) I .nil h)
theorem passF {X : Cx} {σ : L2.St} : PassesAt (L2.CX X.prog X.w) X σ (fun _ _ _ => False) := by
  intro _ _ _ e s' I c
  obtain ⟨_, _, _, _, _, _, _, _, _, _, _, _, z⟩ := c
  exact z.elim
theorem OwAt.mutD {a : Addr} {d : D} (h : OwAt K H O a d) : noMut d = false := by cases h <;> rfl
/-- what a def gives, in the caller's words -/
theorem VR.call {H1 H' : Hp} {kd : Kd} {v : V} {d : D} (fb : FbOk H1 Fb) (h : VR K (forb H1 (Fb false)) H1 H' kd v d) : VR K Fb H1 H' ⟨kd.own, kd.fr || noMut d⟩ v d := by
  obtain ⟨h1, h2⟩ := h
  have up : ∀ f b, Fb f b → forb H1 (Fb false) f b := by
    intro f b z
    cases f with
    | false => exact z
    | true => exact fb.tr b z
  have h1' : Rp K H' (Fb kd.fr) v d := h1.less (up _)
  refine ⟨?_, fun e => ?_⟩
  · cases z : noMut d with
    | true => exact h1'.free z
    | false =>
      show Rp K H' (Fb (kd.fr || false)) v d
      rw [Bool.or_false]
      exact h1'
  · obtain ⟨a, e1, n, o⟩ := h2 e
    have z := o.mutD
    refine ⟨a, e1, n, ?_⟩
    show OwAt K H' (fun b => Fb (kd.fr || noMut d) b ∨ b = a) a d
    rw [z, Bool.or_false]
    exact o.less fun b y => y.imp (up _ b) id
theorem OwAt.freeJ {K : PySem.W.Frag} {O O' : Addr → Prop} {a : Addr} {d : D} (h : OwAt K H O a d) (e : noMutI d = true) : OwAt K H O' a d := by
  cases h with
  | lst q r => exact .lst q (r.free (by simpa only [noMutI] using e))
  | dct q r => exact .dct q (r.free (by simpa only [noMutI] using e))
theorem VR.upK {H1 H2 : Hp} {kd : Kd} {v : V} {d : D} (fb : FbOk H1 Fb) (h : VR K Fb H1 H2 kd v d) : VR K Fb H1 H2 (R.upK (kd, d)).1 v (R.upK (kd, d)).2 := by
  by_cases ho : kd.own = true
  · have e : R.upK (kd, d) = (⟨true, kd.fr || noMutI d⟩, d) := by unfold R.upK; rw [if_pos ho]
    rw [e]
    show VR K Fb H1 H2 (⟨true, kd.fr || noMutI d⟩ : Kd) v d
    cases hm : noMutI d with
    | false =>
      have : (⟨true, kd.fr || false⟩ : Kd) = kd := by cases kd; simp only at ho; subst ho; simp
      rw [this]
      exact h
    | true =>
      obtain ⟨a, e1, n, o⟩ := h.2 ho
      subst e1
      have o' : OwAt K H2 (fun b => Fb true b ∨ b = a) a d := o.freeJ hm
      rw [Bool.or_true]
      exact ⟨o'.rp (Keep.weak fun b z => .inl z) fun z => fb.tr a z n, fun _ => ⟨a, rfl, n, o'⟩⟩
  · have e : R.upK (kd, d) = (kd, d) := by unfold R.upK; rw [if_neg ho]
    rw [e]
    exact h
theorem call_fin {X : Cx} {W : WX} {σ : L2.St} {env : Env1} {s : FSpec} {vs : List V} {ds : List D} {f : Bool} {r0 : Except Str (D × List D)} {Q : VK} {E : XK} (A : At ft k N tabs X W sc Fb σ H env)
    (hmu : s.mu = []) (hn : ds.length = s.n) (rv : RpA X.K H (Fb f) vs ds) (hF : s.F ds = some r0)
    (q : ∀ d ms, r0 = .ok (d, ms) → ∀ v H2, Gr H H2 → VR X.K Fb H H2 ⟨s.kd.own, s.kd.fr || noMut d⟩ v d → Q v H2)
    (er : ∀ c, r0 = .error c → ∀ C : Addr, X.mg c = some (Value.ref C) → ∀ H2, Gr H H2 → E (Value.ref C) none H2) : spD X.K X.mg tabs s vs H Q E := by
  have noM : ∀ a, ¬ MuA s.mu vs a := fun a ⟨i, hi, _⟩ => by rw [hmu] at hi; cases hi
  have toGr : ∀ {H' : Hp}, GrM (MuA s.mu vs) H H' → Gr H H' := fun g => g.mono fun a z => noM a z
  have rf : RpA X.K H (Fb false) vs ds := rv.less (A.fb.up (fun z => by cases z))
  refine ⟨ds, Fb false, r0, by rw [rv.length]; exact hn, hn, fun a z => A.fb.at false a z, fun a z => (noM a z).elim, A.tb, fun i v d _ e1 e2 => ?_, (fun i d z _ => by rw [hmu] at z; cases z), (fun i j a z _ _ _ => by rw [hmu] at z; cases z), hF, fun d ms e v H' g vr _ => ?_, fun c e C hC H' g => er c e C hC H' (toGr g)⟩
  · obtain ⟨d', e3, r⟩ := rf.getV e1
    rw [e2] at e3; cases e3
    exact r
  · exact q d ms e v H' (toGr g) (VR.call A.fb vr)
/-- the arguments; where there are none nothing is done -/
def rdL (X : Cx) (l : List Expr) : TA := match l with
  | [] => tNil
  | e :: l => SA X (e :: l)
theorem LS.rd {es : XL} {l : List Expr} (h : LS ft k N tabs sc es l) (hm : mtL N sc es l = true) {X : Cx} {W : WX} {σ : L2.St} {env : Env1} {r : Except Str (Bool × List D)} {Q : List V → Hp → Prop}
    (A : At ft k N tabs X W sc Fb σ H env) (ev : evL ft es env = some r) (q : ∀ q, r = .ok q → ∀ vs H2, Gr H H2 → RpA X.K H2 (Fb q.1) vs q.2 → Q vs H2) (er : ∀ c, r = .error c → ErrOk X W σ H c) : rdL X l σ H Q := by
  cases l with
  | nil =>
    cases es with
    | nil => cases ev; exact q _ rfl [] H GrM.refl .nil
    | cons _ _ => simp [mtL] at hm
  | cons e l => exact h X W Fb σ H env r Q A ev q er
theorem call_finB {X : Cx} {W : WX} {σ : L2.St} {env : Env1} {s : FSpec} {vs : List V} {qs : List (Bool × D)} {r0 : Except Str (D × List D)} {Q : VK} {E : XK} (A : At ft k N tabs X W sc Fb σ H env)
    (hmu : s.mu = []) (hn : qs.length = s.n) (hfr : s.kd.fr = true) (rv : BwA X.K H Fb vs qs) (hF : s.F (qs.map (·.2)) = some r0)
    (q : ∀ d ms, r0 = .ok (d, ms) → ∀ v H2, Gr H H2 → VR X.K Fb H H2 ⟨s.kd.own, s.kd.fr || noMut d⟩ v d → Q v H2)
    (er : ∀ c, r0 = .error c → ∀ C : Addr, X.mg c = some (Value.ref C) → ∀ H2, Gr H H2 → E (Value.ref C) none H2) : spD X.K X.mg tabs s vs H Q E := by
  have noM : ∀ a, ¬ MuA s.mu vs a := fun a ⟨i, hi, _⟩ => by rw [hmu] at hi; cases hi
  have toGr : ∀ {H' : Hp}, GrM (MuA s.mu vs) H H' → Gr H H' := fun g => g.mono fun a z => noM a z
  have len : ∀ {vs : List V} {qs : List (Bool × D)}, BwA X.K H Fb vs qs → vs.length = qs.length := by
    intro vs qs r
    induction r with
    | nil => rfl
    | cons _ _ ih => rw [List.length_cons, List.length_cons, ih]
  have get : ∀ {vs : List V} {qs : List (Bool × D)}, BwA X.K H Fb vs qs → ∀ {i : Nat} {v : V} {d : D}, vs[i]? = some v → (qs.map (·.2))[i]? = some d → Rp X.K H (fun _ => False) v d := by
    intro vs qs r
    induction r with
    | nil => intro i v d e1 e2; simp at e1
    | cons b _ ih =>
      intro i v d e1 e2
      cases i with
      | zero =>
        cases e1; cases e2
        cases b with
        | sh r => exact r.less fun _ z => z.elim
        | ow o => exact o.rp (Keep.weak fun _ z => z.elim) fun z => z
      | succ i => exact ih (by simpa using e1) (by simpa using e2)
  have fe : ∀ F G : Addr → Prop, forb H F s.kd.fr = forb H G s.kd.fr := fun F G => by rw [hfr]; rfl
  refine ⟨qs.map (·.2), fun _ => False, r0, by rw [len rv]; exact hn, by rw [List.length_map]; exact hn, fun a z => z.elim, fun a z => (noM a z).elim, A.tb, fun i v d _ e1 e2 => get rv e1 e2, (fun i d z _ => by rw [hmu] at z; cases z), (fun i j a z _ _ _ => by rw [hmu] at z; cases z), hF, fun d ms e v H' g vr _ => ?_, fun c e C hC H' g => er c e C hC H' (toGr g)⟩
  have vr' : VR X.K (forb H (Fb false)) H H' s.kd v d := by
    obtain ⟨w1, w2⟩ := vr
    rw [fe _ (Fb false)] at w1
    refine ⟨w1, fun z => ?_⟩
    obtain ⟨a, x1, x2, x3⟩ := w2 z
    rw [fe _ (Fb false)] at x3
    exact ⟨a, x1, x2, x3⟩
  exact q d ms e v H' (toGr g) (VR.call A.fb vr')
theorem LBS.rd {es : XL} {l : List Expr} (h : LBS ft k N tabs sc es l) (hm : mtL N sc es l = true) {X : Cx} {W : WX} {σ : L2.St} {env : Env1} {r : Except Str (List (Bool × D))} {Q : List V → Hp → Prop}
    (A : At ft k N tabs X W sc Fb σ H env) (ev : evBL ft es env = some r) (q : ∀ q, r = .ok q → ∀ vs H2, Gr H H2 → BwA X.K H2 Fb vs q → Q vs H2) (er : ∀ c, r = .error c → ErrOk X W σ H c) : rdL X l σ H Q := by
  cases l with
  | nil =>
    cases es with
    | nil => cases ev; exact q _ rfl [] H GrM.refl .nil
    | cons _ _ => simp [mtL] at hm
  | cons e l => exact h X W Fb σ H env r Q A ev q er
theorem es_call {f x : Str} {es : XL} {l : List Expr} {p pos : Pos} (hg : gnB sc f x = true) (hm : mtL N sc es l = true) (hl : LS ft k N tabs sc es l) (hlb : LBS ft k N tabs sc es l) : ES ft k N tabs sc (.call f es) (.Call (.Name x p) l [] pos) := by
  intro X W Fb σ H env r Q A ev q er
  obtain ⟨rfl, hgl, hd, _⟩ := gn_inv hg
  have star := mtL_star hm
  have ev' : (match ft.fn f with
      | some s => if s.kd.fr = true then bnd (evBL ft es env) fun q => if s.mu = [] ∧ q.length = s.n then bnd (s.F (q.map (·.2))) fun r => ok ((⟨s.kd.own, s.kd.fr || noMut r.1⟩, r.1) : Kd × D) else none
        else bnd (evL ft es env) fun q => if s.mu = [] ∧ q.2.length = s.n then bnd (s.F q.2) fun r => ok ((⟨s.kd.own, s.kd.fr || noMut r.1⟩, r.1) : Kd × D) else none
      | none => none) = some r := ev
  cases es0 : ft.fn f with
  | none => rw [es0] at ev'; cases ev'
  | some s =>
    rw [es0] at ev'
    obtain ⟨a, fd, ps, mg, hk, hb, hps, F⟩ := A.gc.fn f s es0
    have pe : ∀ (E : L2.St → XK), (∀ σ, PassesAt (CX X.prog X.w) X σ (E σ)) → PE X (.Call (.Name f p) l [] pos) (fun σ H Q => rdL X l σ H fun vs H1 => spD X.K X.mg tabs s vs H1 Q (E σ)) := by
      intro E hE
      cases l with
      | nil => exact pe_callS0 F A.gc.room (A.gc.glb f hgl) mg hk hb hE hd
      | cons e l => exact pe_callS F A.gc.room (A.gc.glb f hgl) mg hk hb hE pa_S hd (star_eq (star e List.mem_cons_self)) (star_any fun x hx => star x (List.mem_cons_of_mem _ hx))
    simp only at ev'
    split at ev'
    · rename_i hfr
      rcases bnd_inv ev' with ⟨c, e1, rfl⟩ | ⟨qs, e1, e2⟩
      · exact SE.of (pe _ fun σ => passF) (hlb.rd hm A e1 (fun _ z => by cases z) (errTo er))
      · split at e2
        · rename_i cnd
          rcases bnd_inv e2 with ⟨c, e3, rfl⟩ | ⟨⟨d, ms⟩, e3, e4⟩
          · refine SE.of (pe _ fun σ => passAt A.gc.tk σ) (hlb.rd hm A e1 (fun p z vs H2 g vr => ?_) (fun _ z => by cases z))
            cases z
            exact call_finB (A.gr g) cnd.1 cnd.2 hfr vr e3 (fun _ _ z => by cases z) fun c' z C hC H3 g3 => by
              cases z
              exact er c rfl C hC H3 (g.trans g3)
          · cases e4
            refine SE.of (pe _ fun σ => passF) (hlb.rd hm A e1 (fun p z vs H2 g vr => ?_) (fun _ z => by cases z))
            cases z
            refine call_finB (A.gr g) cnd.1 cnd.2 hfr vr e3 (fun d' ms' z v H3 g3 vr3 => ?_) fun c' z C hC H3 g3 => by cases z
            cases z
            exact q _ rfl v H3 (g.trans g3) (vr3.back g)
        · cases e2
    · rename_i hfr
      rcases bnd_inv ev' with ⟨c, e1, rfl⟩ | ⟨⟨ff, ds⟩, e1, e2⟩
      · exact SE.of (pe _ fun σ => passF) (hl.rd hm A e1 (fun _ z => by cases z) (errTo er))
      · split at e2
        · rename_i cnd
          rcases bnd_inv e2 with ⟨c, e3, rfl⟩ | ⟨⟨d, ms⟩, e3, e4⟩
          · refine SE.of (pe _ fun σ => passAt A.gc.tk σ) (hl.rd hm A e1 (fun p z vs H2 g vr => ?_) (fun _ z => by cases z))
            cases z
            exact call_fin (A.gr g) cnd.1 cnd.2 vr e3 (fun _ _ z => by cases z) fun c' z C hC H3 g3 => by
              cases z
              exact er c rfl C hC H3 (g.trans g3)
          · cases e4
            refine SE.of (pe _ fun σ => passF) (hl.rd hm A e1 (fun p z vs H2 g vr => ?_) (fun _ z => by cases z))
            cases z
            refine call_fin (A.gr g) cnd.1 cnd.2 vr e3 (fun d' ms' z v H3 g3 vr3 => ?_) fun c' z C hC H3 g3 => by cases z
            cases z
            exact q _ rfl v H3 (g.trans g3) (vr3.back g)
        · cases e2
/-! ### calls of the built-in ones -/
theorem es_bf {f x : Str} {es : XL} {l : List Expr} {p pos : Pos} (hg : gnB sc f x = true) (hb : f ∈ biNames) (hm : mtL N sc es l = true) (hl : LBS ft k N tabs sc es l) : ES ft k N tabs sc (.bf f es) (.Call (.Name x p) l [] pos) := by
  intro X W Fb σ H env r Q A ev q er
  obtain ⟨rfl, hgl, hd, hn⟩ := gn_inv hg
  have star := mtL_star hm
  have hmg := A.gc.bi f hb
  cases l with
  | nil =>
    cases es with
    | cons _ _ => simp [mtL] at hm
    | nil =>
      · obtain ⟨_, e30, rfl⟩ := lift_inv (show lift ((bfE f []).map upK) = some r from ev)
        obtain ⟨⟨kd, z⟩, e3, rfl⟩ := Option.map_eq_some_iff.mp e30
        exfalso
        unfold bfE at e3
        by_cases e : f = "len"
        · rw [if_pos e] at e3; cases e3
        rw [if_neg e] at e3
        by_cases e : f = "abs"
        · rw [if_pos e] at e3; cases e3
        rw [if_neg e] at e3
        by_cases e : f = "max"
        · rw [if_pos e] at e3; cases e3
        rw [if_neg e] at e3
        by_cases e : f = "min"
        · rw [if_pos e] at e3; cases e3
        rw [if_neg e] at e3
        by_cases e : f = "int"
        · rw [if_pos e] at e3; cases e3
        rw [if_neg e] at e3
        by_cases e : f = "str"
        · rw [if_pos e] at e3; cases e3
        rw [if_neg e] at e3
        by_cases e : f = "list"
        · rw [if_pos e] at e3; cases e3
        rw [if_neg e] at e3
        by_cases e : f = "tuple"
        · rw [if_pos e] at e3; cases e3
        rw [if_neg e] at e3
        by_cases e : f = "dict"
        · rw [if_pos e] at e3; cases e3
        rw [if_neg e] at e3
        by_cases e : f = "all"
        · rw [if_pos e] at e3; cases e3
        rw [if_neg e] at e3
        by_cases e : f = "any"
        · rw [if_pos e] at e3; cases e3
        rw [if_neg e] at e3
        by_cases e : f = "sorted"
        · rw [if_pos e] at e3; cases e3
        rw [if_neg e] at e3
        cases e3
  | cons e l =>
    have pe : ∀ (fv : Value) (r2 : List V → Hp → VK → Prop), bootBuiltins f = some fv → ((∃ id, fv = .builtin id) ∨ ∃ T, fv = .type T) → CallR X fv r2 → PE X (.Call (.Name f p) (e :: l) [] pos) (tCB r2 (SA X (e :: l))) := by
      intro fv r2 hbt ht hc
      rcases ht with ⟨id, rfl⟩ | ⟨T, rfl⟩
      · exact pe_callB hc (A.gc.glb f hgl) hmg hbt pa_S hn hd (star_eq (star e List.mem_cons_self)) (star_any fun x hx => star x (List.mem_cons_of_mem _ hx))
      · exact pe_callTy hc (A.gc.glb f hgl) hmg hbt pa_S hn hd (star_eq (star e List.mem_cons_self)) (star_any fun x hx => star x (List.mem_cons_of_mem _ hx))
    rcases bnd_inv ev with ⟨c, e1, rfl⟩ | ⟨qs, e1, e2⟩
    · have hh : ∃ fv, bootBuiltins f = some fv ∧ ((∃ id, fv = .builtin id) ∨ ∃ T, fv = .type T) := by
        have all : ∀ f, f ∈ biNames → ∃ fv, bootBuiltins f = some fv ∧ ((∃ id, fv = .builtin id) ∨ ∃ T, fv = .type T) := by
          have h2 : biNames.all (fun f => match bootBuiltins f with | some (.builtin _) => true | some (.type _) => true | _ => false) = true := by decide +kernel
          intro f hf
          have h3 := List.all_eq_true.mp h2 f hf
          revert h3
          cases bootBuiltins f with
          | none => intro h3; cases h3
          | some v =>
            cases v with
            | builtin id => intro _; exact ⟨_, rfl, .inl ⟨_, rfl⟩⟩
            | type T => intro _; exact ⟨_, rfl, .inr ⟨_, rfl⟩⟩
            | _ => intro h3; cases h3
        exact all f hb
      obtain ⟨fv, h1, h2⟩ := hh
      exact SE.of (pe fv _ h1 h2 falseCall) (hl X W Fb σ H env _ _ A e1 (fun _ z => by cases z) (errTo er))
    · obtain ⟨_, e30, rfl⟩ := lift_inv e2
      obtain ⟨⟨kd, z⟩, e3, rfl⟩ := Option.map_eq_some_iff.mp e30
      obtain ⟨fv, h1, h2, r2, hc, hr⟩ := bf_ok (X := X) (Fb := Fb) A.gc.calm e3
      refine SE.of (pe fv r2 h1 h2 hc) (hl X W Fb σ H env _ _ A e1 (fun p z vs H2 g vr => ?_) (fun _ z => by cases z))
      cases z
      exact hr H2 vs Q (A.fb.gr g) vr fun u H3 g3 vr3 => q _ rfl u H3 (g.trans g3) (VR.upK A.fb (vr3.back g))
end R
namespace R
open PySem PySem.Spec PyProof.Rows L2
variable {K : PySem.W.Frag} {H H1 H2 H3 : Hp} {O O' M : Addr → Prop} {Fb : Bool → Addr → Prop}
variable {ft : FT} {k : Nat} {N : List Str} {tabs : List Addr} {sc : Scope}
/-! ### isinstance -/
theorem Bw.ty {v : V} {d : D} (r : Bw K H O v d) : TyX K H v (.type (tyN d)) := by
  cases d with
  | none => rw [r.none]; exact .base .non
  | bool b => rw [r.bool]; exact .base (.bl b)
  | int i => rw [r.int]; exact .base (.int i)
  | str x => rw [r.str]; exact .base (.str x)
  | list xs =>
    obtain ⟨a, vs, rfl, hl, _⟩ := r.list
    rcases hl with hl | ⟨o, hl⟩
    · exact .base (.lst hl)
    · exact .base (.frz hl)
  | tuple xs =>
    obtain ⟨a, vs, rfl, hl, _⟩ := r.tuple
    rcases hl with (hl | ⟨o, hl⟩) | ⟨o, _, _, h1, h2, _⟩
    · exact .base (.tup hl)
    · exact .fTuple hl
    · exact .kTuple h1 h2
  | dict es =>
    obtain ⟨a, vs, rfl, hl, _⟩ := r.dict
    exact .base (.dK hl)
def tyNm (c : Str) : String := if c = "int" then "int" else if c = "bool" then "bool" else if c = "str" then "str" else if c = "tuple" then "tuple" else if c = "list" then "list" else "dict"
theorem ty_all : tyNames.all (fun c => decide (bootBuiltins c = some (.type (tyNm c))) &&
    ["NoneType", "bool", "int", "str", "list", "tuple", "dict"].all (fun t => decide (isiN t c = kitB t (tyNm c)))) = true := by decide +kernel
theorem ty_boot {c : Str} (h : c ∈ tyNames) : bootBuiltins c = some (.type (tyNm c)) := by
  have q := List.all_eq_true.mp ty_all c h
  rw [Bool.and_eq_true] at q
  exact of_decide_eq_true q.1
theorem ty_kit {c : Str} (h : c ∈ tyNames) (d : D) : isiN (tyN d) c = kitB (tyN d) (tyNm c) := by
  have q := List.all_eq_true.mp ty_all c h
  rw [Bool.and_eq_true] at q
  have q2 := List.all_eq_true.mp q.2 (tyN d) (by cases d <;> simp [tyN])
  exact of_decide_eq_true q2
theorem kit_any {d : D} : ∀ {ts : List Str} {b : Bool}, (∀ c, c ∈ ts → c ∈ tyNames) → isiE d ts = some b → PySem.W.kitAny K (.type (tyN d)) (ts.map fun c => .type (tyNm c)) = some b
  | [], b, _, h => by cases h; rfl
  | c :: ts, b, hm, h => by
    have e := ty_kit (hm c List.mem_cons_self) d
    simp only [isiE] at h
    cases z : isiN (tyN d) c with
    | none => rw [z] at h; cases h
    | some t =>
      rw [z] at h
      have e2 : PySem.W.kitOne K (.type (tyN d)) (.type (tyNm c)) = some t := by rw [kit_ty (e.symm.trans z)]
      show (match PySem.W.kitOne K (.type (tyN d)) (.type (tyNm c)) with
        | some true => some true
        | some false => PySem.W.kitAny K (.type (tyN d)) (ts.map fun c => .type (tyNm c))
        | none => none) = some b
      rw [e2]
      cases t with
      | true => cases h; rfl
      | false => exact kit_any (fun c hc => hm c (List.mem_cons_of_mem _ hc)) h
theorem names_inv : ∀ {ts : List Str} {l : List Expr}, namesB sc ts l = true → (∀ c, c ∈ ts → c ∈ tyNames) ∧ (∀ e, e ∈ l → starNo e = true)
  | [], [], _ => ⟨fun _ h => (by cases h), fun _ h => (by cases h)⟩
  | [], _ :: _, h => by simp [namesB] at h
  | _ :: _, [], h => by simp [namesB] at h
  | t :: ts, e :: es, h => by
    cases e with
    | Name x p =>
      simp only [namesB, Bool.and_eq_true, decide_eq_true_eq] at h
      obtain ⟨i1, i2⟩ := names_inv h.2
      refine ⟨fun c hc => ?_, fun e he => ?_⟩
      · rcases List.mem_cons.mp hc with z | z
        · rw [z]; exact h.1.2
        · exact i1 c z
      · rcases List.mem_cons.mp he with z | z
        · rw [z]; rfl
        · exact i2 e z
    | _ => simp [namesB] at h
def tTys (ts : List Str) : TA := fun _ H Q => Q (ts.map fun c => V.ty (tyNm c)) H
theorem ty_mem_bi : ∀ c, c ∈ tyNames → c ∈ biNames := by decide +kernel
theorem pa_tys {X : Cx} {W : WX} (gc : GC ft k N tabs W X sc) : ∀ {ts : List Str} {l : List Expr}, namesB sc ts l = true → PA X l (tTys ts)
  | [], [], _ => pa_nil
  | [], _ :: _, h => by simp [namesB] at h
  | _ :: _, [], h => by simp [namesB] at h
  | t :: ts, e :: es, h => by
    cases e with
    | Name x p =>
      simp only [namesB, Bool.and_eq_true, decide_eq_true_eq] at h
      obtain ⟨rfl, hgl, hd, hn⟩ := gn_inv h.1.1
      exact pa_cons (pe_bltn (v := .ty (tyNm t)) (gc.glb t hgl) (gc.bi t (ty_mem_bi t h.1.2)) (ty_boot h.1.2) rfl hn hd) (pa_tys gc h.2) rfl
    | _ => simp [namesB] at h
theorem paired_cls : ∀ ts : List Str, Paired ClsV (ts.map fun c => V.ty (tyNm c)) (ts.map fun c => Value.type (tyNm c))
  | [] => .nil
  | t :: ts => .cons (.ty _) (paired_cls ts)
theorem es_isi1 {a : X} {ts : List Str} {x t : Str} {e : Expr} {p p2 pos : Pos} (hg : gnB sc "isinstance" x = true) (hs : starNo e = true) (hn : namesB sc ts [.Name t p2] = true) (ha : BS ft k N tabs sc a e) :
    ES ft k N tabs sc (.isi a ts true) (.Call (.Name x p) [e, .Name t p2] [] pos) := by
  intro X W Fb σ H env r Q A ev q er
  obtain ⟨rfl, hgl, hd, hnn⟩ := gn_inv hg
  have hmg := A.gc.bi "isinstance" (by decide +kernel)
  obtain ⟨hty, _⟩ := names_inv hn
  refine SE.of (pe_callB (id := "isinstance") call_isi (A.gc.glb _ hgl) hmg (by decide +kernel) (pa_cons pe_S (pa_tys A.gc hn) (star_eq hs)) hnn hd (star_eq hs) rfl) ?_
  rcases bnd_inv ev with ⟨c, e1, rfl⟩ | ⟨⟨f, d⟩, e1, e2⟩
  · exact ha X W Fb σ H env _ _ A e1 (fun _ z => by cases z) (errTo er)
  · obtain ⟨z, e3, rfl⟩ := lift_inv e2
    cases e4 : isiE d ts with
    | none => rw [e4] at e3; cases e3
    | some b =>
      rw [e4] at e3; cases e3
      refine ha X W Fb σ H env _ _ A e1 (fun p z v H2 g vr => ?_) (fun _ z => by cases z)
      cases z
      cases ts with
      | nil => simp [namesB] at hn
      | cons c ts =>
        cases ts with
        | cons _ _ => simp [namesB] at hn
        | nil =>
          refine ⟨v, .ty (tyNm c), .type (tyN d), .type (tyNm c), b, rfl, .ty _, vr.ty, ?_, q _ rfl _ H2 g vr_bool⟩
          have h := kit_any (K := X.K) hty e4
          simp only [List.map_cons, List.map_nil, PySem.W.kitAny] at h
          cases z : PySem.W.kitOne X.K (.type (tyN d)) (.type (tyNm c)) with
          | none => rw [z] at h; cases h
          | some t => rw [z] at h; cases t <;> exact h
theorem es_isiT {a : X} {ts : List Str} {x : Str} {e : Expr} {l : List Expr} {j : Nat} {p p2 pos : Pos} (hg : gnB sc "isinstance" x = true) (hs : starNo e = true) (hn : namesB sc ts l = true) (hz : ts.length ≤ 100) (ha : BS ft k N tabs sc a e) :
    ES ft k N tabs sc (.isi a ts false) (.Call (.Name x p) [e, .Tuple l j p2] [] pos) := by
  intro X W Fb σ H env r Q A ev q er
  obtain ⟨rfl, hgl, hd, hnn⟩ := gn_inv hg
  have hmg := A.gc.bi "isinstance" (by decide +kernel)
  obtain ⟨hty, _⟩ := names_inv hn
  refine SE.of (pe_callB (id := "isinstance") call_isiT (A.gc.glb _ hgl) hmg (by decide +kernel) (pa_cons pe_S (pa_cons (pe_tup (pa_tys A.gc hn)) pa_nil rfl) (star_eq hs)) hnn hd (star_eq hs) rfl) ?_
  rcases bnd_inv ev with ⟨c, e1, rfl⟩ | ⟨⟨f, d⟩, e1, e2⟩
  · exact ha X W Fb σ H env _ _ A e1 (fun _ z => by cases z) (errTo er)
  · obtain ⟨z, e3, rfl⟩ := lift_inv e2
    cases e4 : isiE d ts with
    | none => rw [e4] at e3; cases e3
    | some b =>
      rw [e4] at e3; cases e3
      refine ha X W Fb σ H env _ _ A e1 (fun p z v H2 g vr => ?_) (fun _ z => by cases z)
      cases z
      refine ⟨by rw [List.length_map]; exact Nat.le_trans hz (by decide), fun p hp => ?_⟩
      have g2 : Gr H2 (upd H2 p (.tup (ts.map fun c => V.ty (tyNm c)))) := Gr.new hp
      exact ⟨v, p, _, .type (tyN d), _, b, rfl, upd_same, paired_cls ts, (vr.gr g2).ty, kit_any hty e4, q _ rfl _ _ (g.trans g2) vr_bool⟩
/-! ### items, slices -/
theorem RpA.atI {vs : List V} {ds : List D} {i : Int} {d : D} (r : RpA K H O vs ds) (h : L2.atI ds i = some d) : ∃ v, L2.atI vs i = some v ∧ Rp K H O v d := by
  unfold L2.atI at h ⊢
  rw [r.length]
  cases e : ixN ds.length i with
  | none => rw [e] at h; cases h
  | some j =>
    rw [e] at h
    obtain ⟨v, e1, e2⟩ := r.get (show ds[j]? = some d from h)
    exact ⟨v, e1, e2⟩
theorem plainIx {b : Expr} (h : noSl b = true) : PlainIx b := by
  intro o i
  cases b <;> first | rfl | cases h
theorem noSl_of {b : Expr} (h : noSl b = true) : NoSl b := by
  intro o i
  cases b <;> first | rfl | cases h
theorem falseIx {X : Cx} : IxR X (fun _ _ _ _ => False) := fun _ _ _ _ _ _ _ _ _ _ _ _ _ _ h _ => h.elim
theorem es_ix {a b : X} {ea eb : Expr} {pos : Pos} (hs : noSl eb = true) (ha : BS ft k N tabs sc a ea) (hb : BS ft k N tabs sc b eb) : ES ft k N tabs sc (.ix a b) (.Subscript ea eb pos) := by
  intro X W Fb σ H env r Q A ev q er
  rcases bnd_inv ev with ⟨c, e1, rfl⟩ | ⟨⟨f, x⟩, e1, e2⟩
  · exact SE.of (pe_ix falseIx pe_S pe_S (plainIx hs)) (ha X W Fb σ H env _ _ A e1 (fun _ z => by cases z) (errTo er))
  · rcases bnd_inv e2 with ⟨c, e3, rfl⟩ | ⟨⟨f', y⟩, e3, e4⟩
    · refine SE.of (pe_ix falseIx pe_S pe_S (plainIx hs)) (ha X W Fb σ H env _ _ A e1 (fun p z v H2 g vr => ?_) (fun _ z => by cases z))
      exact hb X W Fb σ H2 env _ _ (A.gr g) e3 (fun _ z => by cases z) (fun c z => (errTo er c z).gr g)
    · obtain ⟨⟨kd, z⟩, e5, rfl⟩ := lift_inv e4
      unfold ixE at e5
      split at e5
      · rename_i f xs _ i h1 h2
        cases h1; cases h2
        cases e6 : atI xs i with
        | none => rw [e6] at e5; cases e5
        | some d =>
          rw [e6] at e5; cases e5
          refine SE.of (pe_ix ix_list pe_S pe_S (plainIx hs)) (ha X W Fb σ H env _ _ A e1 (fun p z v H2 g vr => ?_) (fun _ z => by cases z))
          cases z
          refine hb X W Fb σ H2 env _ _ (A.gr g) e3 (fun p z w H3 g3 vr3 => ?_) (fun _ z => by cases z)
          cases z
          obtain ⟨l, vs, rfl, hl, t⟩ := (vr.gr g3).list
          obtain ⟨u, e7, ru⟩ := t.atI e6
          exact ⟨l, vs, i, u, rfl, vr3.int, .inl hl, e7, q _ rfl u H3 (g.trans g3) (VR.al ru)⟩
      · rename_i f xs _ i h1 h2
        cases h1; cases h2
        cases e6 : atI xs i with
        | none => rw [e6] at e5; cases e5
        | some d =>
          rw [e6] at e5; cases e5
          refine SE.of (pe_ix ix_tup pe_S pe_S (plainIx hs)) (ha X W Fb σ H env _ _ A e1 (fun p z v H2 g vr => ?_) (fun _ z => by cases z))
          cases z
          refine hb X W Fb σ H2 env _ _ (A.gr g) e3 (fun p z w H3 g3 vr3 => ?_) (fun _ z => by cases z)
          cases z
          obtain ⟨l, vs, rfl, hl, t⟩ := (vr.gr g3).tuple
          obtain ⟨u, e7, ru⟩ := t.atI e6
          exact ⟨l, vs, i, u, rfl, vr3.int, hl, e7, q _ rfl u H3 (g.trans g3) (VR.al ru)⟩
      · rename_i f0 es g0 d0 h1 h2
        cases h1; cases h2
        cases e6 : keyOf y with
        | none => rw [e6] at e5; cases e5
        | some ky =>
          rw [e6] at e5
          cases e7 : dgetE es ky with
          | none => rw [show ((some ky).bind fun k => (dgetE es k).map fun d => ((⟨false, f⟩, d) : Kd × D)) = (dgetE es ky).map fun d => ((⟨false, f⟩, d) : Kd × D) from rfl, e7] at e5; cases e5
          | some w0 =>
            rw [show ((some ky).bind fun k => (dgetE es k).map fun d => ((⟨false, f⟩, d) : Kd × D)) = (dgetE es ky).map fun d => ((⟨false, f⟩, d) : Kd × D) from rfl, e7] at e5; cases e5
            refine SE.of (pe_dget (by have := hu_of' A.gc.room; omega) pe_S pe_S (noSl_of hs)) (ha X W Fb σ H env _ _ A e1 (fun p z v H2 g vr => ?_) (fun _ z => by cases z))
            cases z
            refine hb X W Fb σ H2 env _ _ (A.gr g) e3 (fun p z w H3 g3 vr3 => ?_) (fun _ z => by cases z)
            cases z
            obtain ⟨l, vs, rfl, hl, t⟩ := (vr.gr g3).dict
            rcases t.getD ky with ⟨_, z⟩ | ⟨u, d2, h3, h4, h5⟩
            · rw [e7] at z; cases z
            · rw [e7] at h4; cases h4
              exact ⟨l, u, rfl, by rw [keyOf_V e6 vr3, ← h3]; exact DGet.k hl, q _ rfl u H3 (g.trans g3) (VR.al h5)⟩
      · cases e5
theorem RpA.cut {vs : List V} {ds : List D} {lo hi : Option Int} (r : RpA K H O vs ds) : RpA K H O (cutV vs lo hi) (cutD ds lo hi) := by
  unfold cutV cutD
  rw [r.length]
  exact (r.drop _).take _
/-- a part of a slice -/
theorem part_ok {x : XO} {e : Option Expr} (h : (x = .no ∧ e = none) ∨ ∃ y ey, x = .so y ∧ e = some ey ∧ ES ft k N tabs sc y ey) (X : Cx) : ∃ tl, PO X e tl ∧ ∀ (W : WX) (Fb : Bool → Addr → Prop) (σ : L2.St) (H : Hp) (env : Env1) (r : Except Str (Option Int)) (Q : Option Int → Hp → Prop),
    At ft k N tabs X W sc Fb σ H env → evO ft x env = some r → (∀ o, r = .ok o → ∀ H2, Gr H H2 → Q o H2) → (∀ c, r = .error c → ErrOk X W σ H c) → tl σ H Q := by
  rcases h with ⟨rfl, rfl⟩ | ⟨y, ey, rfl, rfl, hy⟩
  · refine ⟨_, po_none, fun W Fb σ H env r Q A ev q er => ?_⟩
    cases ev
    exact q _ rfl H GrM.refl
  · refine ⟨_, po_some pe_S, fun W Fb σ H env r Q A ev q er => ?_⟩
    rcases bnd_inv ev with ⟨c, e1, rfl⟩ | ⟨⟨kd, d⟩, e1, e2⟩
    · exact hy X W Fb σ H env _ _ A e1 (fun _ z => by cases z) (errTo er)
    · refine hy X W Fb σ H env _ _ A e1 (fun p z v H2 g vr => ?_) (fun _ z => by cases z)
      cases z
      cases d with
      | int i => cases e2; exact ⟨i, Bw.int (.sh vr.1), q _ rfl H2 g⟩
      | _ => cases e2
theorem falseSl {X : Cx} : SlR X (fun _ _ _ _ _ => False) := by
  intro pins s σ H x v vl vu lo hi sl Q I rx hs pl pu h
  exact h.elim
theorem es_sl {a : X} {lo hi : XO} {ea : Expr} {el eh : Option Expr} {p2 pos : Pos} (ha : BS ft k N tabs sc a ea) (hl : (lo = .no ∧ el = none) ∨ ∃ y ey, lo = .so y ∧ el = some ey ∧ ES ft k N tabs sc y ey)
    (hh : (hi = .no ∧ eh = none) ∨ ∃ y ey, hi = .so y ∧ eh = some ey ∧ ES ft k N tabs sc y ey) : ES ft k N tabs sc (.sl a lo hi) (.Subscript ea (.Slice el eh none p2) pos) := by
  intro X W Fb σ H env r Q A ev q er
  obtain ⟨tl, pl, hl⟩ := part_ok hl X
  obtain ⟨th, ph, hh⟩ := part_ok hh X
  rcases bnd_inv ev with ⟨c, e1, rfl⟩ | ⟨⟨f, x⟩, e1, e2⟩
  · exact SE.of (pe_slice falseSl pe_S pl ph) (ha X W Fb σ H env _ _ A e1 (fun _ z => by cases z) (errTo er))
  · rcases bnd_inv e2 with ⟨c, e3, rfl⟩ | ⟨l, e3, e4⟩
    · refine SE.of (pe_slice falseSl pe_S pl ph) (ha X W Fb σ H env _ _ A e1 (fun p z v H2 g vr => ?_) (fun _ z => by cases z))
      exact hl W Fb σ H2 env _ _ (A.gr g) e3 (fun _ z => by cases z) (fun c z => (errTo er c z).gr g)
    · rcases bnd_inv e4 with ⟨c, e5, rfl⟩ | ⟨h, e5, e6⟩
      · refine SE.of (pe_slice falseSl pe_S pl ph) (ha X W Fb σ H env _ _ A e1 (fun p z v H2 g vr => ?_) (fun _ z => by cases z))
        refine hl W Fb σ H2 env _ _ (A.gr g) e3 (fun p z H3 g3 => ?_) (fun _ z => by cases z)
        exact hh W Fb σ H3 env _ _ (A.gr (g.trans g3)) e5 (fun _ z => by cases z) (fun c z => (errTo er c z).gr (g.trans g3))
      · obtain ⟨_, e70, rfl⟩ := lift_inv e6
        obtain ⟨⟨kd, z⟩, e7, rfl⟩ := Option.map_eq_some_iff.mp e70
        unfold slE at e7
        split at e7
        · rename_i f xs lo hi h1
          cases h1; cases e7
          refine SE.of (pe_slice sl_list pe_S pl ph) (ha X W Fb σ H env _ _ A e1 (fun p z v H2 g vr => ?_) (fun _ z => by cases z))
          cases z
          refine hl W Fb σ H2 env _ _ (A.gr g) e3 (fun p z H3 g3 => ?_) (fun _ z => by cases z)
          cases z
          refine hh W Fb σ H3 env _ _ (A.gr (g.trans g3)) e5 (fun p z H4 g4 => ?_) (fun _ z => by cases z)
          cases z
          obtain ⟨b, vs, rfl, hb, t⟩ := ((vr.gr g3).gr g4).list
          have gg := (g.trans g3).trans g4
          exact ⟨b, vs, rfl, .inl hb, fun p hp => q _ rfl _ _ (gg.trans (Gr.new hp)) (VR.upK A.fb (VR.back (VR.lst (A.fb.gr gg) hp t.cut) gg))⟩
        · rename_i l1 h2 _ _ _ f0 xs h1
          cases h1; cases e7
          refine SE.of (pe_slice sl_tupA pe_S pl ph) (ha X W Fb σ H env _ _ A e1 (fun p z v H2 g vr => ?_) (fun _ z => by cases z))
          cases z
          refine hl W Fb σ H2 env _ _ (A.gr g) e3 (fun p z H3 g3 => ?_) (fun _ z => by cases z)
          cases z
          refine hh W Fb σ H3 env _ _ (A.gr (g.trans g3)) e5 (fun p z H4 g4 => ?_) (fun _ z => by cases z)
          cases z
          obtain ⟨b, vs, rfl, hb, t⟩ := ((vr.gr g3).gr g4).tuple
          have gg := (g.trans g3).trans g4
          refine ⟨b, vs, rfl, hb, fun w => ?_, fun _ p hp => q _ rfl _ _ (gg.trans (Gr.new hp)) (VR.back (VR.tup hp t.cut) gg)⟩
          have e8 : cutD xs l1 h2 = xs := by
            unfold cutD
            rw [← t.length, w.1, w.2, t.length]
            simp
          rw [e8] at q
          exact q _ rfl _ H4 gg (VR.al (.tup hb t))
        · cases e7
end R
namespace R
open PySem PySem.Spec PyProof.Rows L2
variable {K : PySem.W.Frag} {H H1 H2 H3 : Hp} {O O' M : Addr → Prop} {Fb : Bool → Addr → Prop}
variable {ft : FT} {k : Nat} {N : List Str} {tabs : List Addr} {sc : Scope}
/-! ### what is walked -/
def SrcAt (X : Cx) (Fb : Bool → Addr → Prop) (H : Hp) (f : Bool) (ds : List D) (J : It) : Prop :=
  ∃ (n : Nat) (G : Hp → Prop) (Y : Nat → Hp → V → Hp → Prop), Walk J n G Y ∧ n = ds.length ∧ (∀ H', Gr H H' → G H') ∧
    ∀ i H1 x H2, Gr H H1 → i < n → Y i H1 x H2 → H2 = H1 ∧ ∃ d, ds[i]? = some d ∧ Rp X.K H (Fb f) x d
def SI (X : Cx) (tg iter : Expr) : TI := fun σ H R => ∀ pins s, Inv X pins σ H s → wpAny (model X.prog X.w) X.A (eval iter X.env) (fun v s1 => wpAny (model X.prog X.w) X.A (pyIter v) (PIE X pins σ tg R) X.xe s1) X.xe s
theorem pi_S {X : Cx} {tg iter : Expr} : PI X tg iter (SI X tg iter) := ⟨fun pins s σ H R I h => h pins s I⟩
theorem SI.of {X : Cx} {tg iter : Expr} {t : TI} (h : PI X tg iter t) {σ : L2.St} {H : Hp} {R : It → Hp → Prop} (q : t σ H R) : SI X tg iter σ H R := fun pins s I => h.run pins s σ H R I q
def SS (ft : FT) (k : Nat) (N : List Str) (tabs : List Addr) (sc : Scope) (src : XS) (iter : Expr) : Prop := ∀ (X : Cx) (W : WX) (Fb : Bool → Addr → Prop) (σ : L2.St) (H : Hp) (env : Env1) (r : Except Str (Bool × List D)) (tg : Expr) (R : It → Hp → Prop),
  At ft k N tabs X W sc Fb σ H env → evS ft src env = some r → (∀ q, r = .ok q → ∀ J H2, Gr H H2 → SrcAt X Fb H2 q.1 q.2 J → R J H2) → (∀ c, r = .error c → ErrOk X W σ H c) → SI X tg iter σ H R
theorem ss_r {a : X} {x : Str} {e : Expr} {p pos : Pos} (hg : gnB sc "range" x = true) (hs : starNo e = true) (ha : ES ft k N tabs sc a e) : SS ft k N tabs sc (.r a) (.Call (.Name x p) [e] [] pos) := by
  intro X W Fb σ H env r tg R A ev q er
  obtain ⟨rfl, hgl, hd, _⟩ := gn_inv hg
  refine SI.of (pi_range1 (A.gc.glb _ hgl) (A.gc.bi _ (by decide +kernel)) (pa_cons pe_S pa_nil (star_eq hs)) (star_eq hs)) ?_
  rcases bnd_inv ev with ⟨c, e1, rfl⟩ | ⟨⟨kd, d⟩, e1, e2⟩
  · exact ha X W Fb σ H env _ _ A e1 (fun _ z => by cases z) (errTo er)
  · refine ha X W Fb σ H env _ _ A e1 (fun p z v H2 g vr => ?_) (fun _ z => by cases z)
    cases z
    rcases bnd_inv e2 with ⟨c, e3, rfl⟩ | ⟨l, e3, e4⟩
    · obtain ⟨_, _, z⟩ := lift_inv e3
      cases z
    · cases e4
      obtain ⟨l2, e5, z⟩ := lift_inv e3
      cases z
      cases d with
      | int i =>
        simp only [rangeE] at e5
        split at e5
        · rename_i c
          cases e5
          have c' : -(2 ^ 62) ≤ i ∧ i < 2 ^ 62 := of_decide_eq_true c
          have ev : v = .int i := Bw.int (.sh vr.1)
          refine ⟨i, by rw [ev], c'.1, c'.2, q _ rfl _ H2 g ⟨i.toNat, _, _, walk_range, by simp, fun _ _ => trivial, fun j H1 x H3 _ hj y => ?_⟩⟩
          obtain ⟨y1, y2⟩ := y
          refine ⟨y1, .int (j : Nat), by simp [hj], ?_⟩
          rw [y2]
          show Rp _ _ _ (.int (0 + (j : Int))) _
          rw [Int.zero_add]
          exact .int _
        · cases e5
      | _ => cases e5
theorem ss_l {a : X} {e : Expr} (ha : BS ft k N tabs sc a e) : SS ft k N tabs sc (.l a) e := by
  intro X W Fb σ H env r tg R A ev q er
  rcases bnd_inv ev with ⟨c, e1, rfl⟩ | ⟨⟨f, d⟩, e1, e2⟩
  · exact SI.of (pi_list pe_S) (ha X W Fb σ H env _ _ A e1 (fun _ z => by cases z) (errTo er))
  · rcases bnd_inv e2 with ⟨c, e3, rfl⟩ | ⟨l, e3, e4⟩
    · obtain ⟨_, _, z⟩ := lift_inv e3
      cases z
    · cases e4
      obtain ⟨l2, e5, z⟩ := lift_inv e3
      cases z
      cases d with
      | list xs =>
        cases e5
        refine SI.of (pi_list pe_S) (ha X W Fb σ H env _ _ A e1 (fun p z v H2 g vr => ?_) (fun _ z => by cases z))
        cases z
        obtain ⟨b, vs, rfl, hl, t⟩ := vr.list
        refine ⟨b, rfl, ⟨vs, .inl hl⟩, q _ rfl _ H2 g ⟨vs.length, _, _, walk_list (xs := vs), t.length, fun H' g' => .inl (g'.rd hl id (fun _ z => by cases z)), fun j H1 x H3 g1 hj y => ?_⟩⟩
        obtain ⟨y1, y2⟩ := y
        obtain ⟨dd, e6, e7⟩ := t.getV y2
        exact ⟨y1, dd, e6, e7⟩
      | tuple xs =>
        cases e5
        refine SI.of (pi_tup pe_S) (ha X W Fb σ H env _ _ A e1 (fun p z v H2 g vr => ?_) (fun _ z => by cases z))
        cases z
        obtain ⟨b, vs, rfl, hl, t⟩ := vr.tuple
        refine ⟨b, rfl, ⟨vs, hl⟩, q _ rfl _ H2 g ⟨vs.length, _, _, walk_tup (xs := vs), t.length, fun H' g' => g'.seqT hl, fun j H1 x H3 g1 hj y => ?_⟩⟩
        obtain ⟨y1, y2⟩ := y
        obtain ⟨dd, e6, e7⟩ := t.getV y2
        exact ⟨y1, dd, e6, e7⟩
      | _ => cases e5
/-! ### the block of a comprehension -/
theorem relabel_free {env : PySem.Env} : ∀ {names : List (Str × NameKind)} {x : Str}, names.lookup x = some .free →
    (names.map fun (n, k) => if (k == NameKind.free && env.scope.kind == .function && env.kindOf n == some .cell) then (n, NameKind.cell) else (n, k)).lookup x = some .free ∨
    (names.map fun (n, k) => if (k == NameKind.free && env.scope.kind == .function && env.kindOf n == some .cell) then (n, NameKind.cell) else (n, k)).lookup x = some .cell
  | [], _, h => by simp at h
  | (n, k) :: r, x, h => by
    rw [List.map_cons]
    by_cases e : x = n
    · subst e
      have hk : k = .free := by simpa [List.lookup] using h
      subst hk
      by_cases c : (NameKind.free == NameKind.free && env.scope.kind == .function && env.kindOf x == some .cell) = true
      · right; simp only [c, if_true]; simp [List.lookup]
      · left
        have c' : (NameKind.free == NameKind.free && env.scope.kind == .function && env.kindOf x == some .cell) = false := by simpa using c
        simp only [c', Bool.false_eq_true, if_false]; simp [List.lookup]
    · have e' : (x == n) = false := by simpa using e
      have h' : r.lookup x = some .free := by simpa [List.lookup, e'] using h
      have ih := relabel_free (env := env) h'
      by_cases c : (k == NameKind.free && env.scope.kind == .function && env.kindOf n == some .cell) = true
      · simp only [c, if_true, List.lookup, e']; exact ih
      · have c' : (k == NameKind.free && env.scope.kind == .function && env.kindOf n == some .cell) = false := by simpa using c
        simp only [c', Bool.false_eq_true, if_false, List.lookup, e']; exact ih
theorem GC.blk {X : Cx} {W : WX} (gc : GC ft k N tabs W X sc) (scope : Scope) (s : Shared) (H : Hp) (C : Addr) (cl : List (Str × Addr)) (fp : List Addr) :
    GC ft k N tabs (fun _ _ _ _ => False) (X.blk s H scope (compEnvC scope cl C X.env) fp) scope where
  vis := fun x h => by
    unfold visB at h
    cases e : scope.names.lookup x with
    | none => rw [e] at h; cases h
    | some kd =>
      rw [e] at h
      cases kd with
      | «local» => exact .inl (lookup_relabel_local e)
      | cell => exact .inr (.inl (oc_lookup_relabel rfl e))
      | free =>
        rcases relabel_free (env := X.env) e with z | z
        · exact .inr (.inr z)
        · exact .inr (.inl z)
      | _ => cases h
  glb := fun x h => by
    unfold glbB at h
    cases e : scope.names.lookup x with
    | none => rw [e] at h; cases h
    | some kd =>
      rw [e] at h
      cases kd with
      | globalImplicit => exact oc_lookup_relabel rfl e
      | _ => cases h
  loc := fun x h => by
    unfold locB at h
    cases e : scope.names.lookup x with
    | none => rw [e] at h; cases h
    | some kd =>
      rw [e] at h
      cases kd with
      | «local» => exact lookup_relabel_local e
      | _ => cases h
  fre := fun x h => by
    rcases h with e | e
    · exact .inl (oc_lookup_relabel rfl e)
    · exact (relabel_free (env := X.env) e).symm
  hN := gc.hN
  nd := gc.nd
  calm := gc.calm
  room := gc.room
  bi := gc.bi
  fn := gc.fn
  gl := gc.gl
  tk := L2.takes0
  tb := gc.tb
theorem GC.blkOk {X : Cx} {W : WX} (gc : GC ft k N tabs W X sc) {scope : Scope} {own : List (Str × Nat)} (h : blkC N sc scope own = true) : BlkOk X.N X.env.scope scope own := by
  have b := blkOk_by h
  rw [gc.hN]
  exact ⟨b.kind, b.uniq, b.ix, fun y hy e => gc.fre _ (b.free y hy e), b.own⟩
theorem EV.set {σ : L2.St} {env : Env1} {i : Nat} {v : V} {d : D} {f : Bool} (h : EV K H Fb σ env) (r : Rp K H (Fb f) v d) : EV K H Fb ((wipe σ [i]).set i (some v)) (env.set i (.sh f d)) := by
  have e : (wipe σ [i]).set i (some v) = σ.set i (some v) := by
    show (σ.set i none).set i (some v) = _
    rw [List.set_set]
  rw [e]
  refine ⟨by rw [List.length_set, List.length_set]; exact h.len, fun j f' d' ej => ?_, fun j n f' d' ej => ?_⟩
  · by_cases z : j = i
    · subst z
      have lt : j < env.length := by
        have := (List.getElem?_eq_some_iff.mp ej).1
        rwa [List.length_set] at this
      rw [List.getElem?_set_self lt] at ej
      cases ej
      exact ⟨v, List.getElem?_set_self (by rw [← h.len]; exact lt), r⟩
    · rw [List.getElem?_set_ne (Ne.symm z)] at ej
      obtain ⟨w, a, b⟩ := h.sh j f' d' ej
      exact ⟨w, by rw [List.getElem?_set_ne (Ne.symm z)]; exact a, b⟩
  · by_cases z : j = i
    · subst z
      have lt : j < env.length := by
        have := (List.getElem?_eq_some_iff.mp ej).1
        rwa [List.length_set] at this
      rw [List.getElem?_set_self lt] at ej
      cases ej
    · rw [List.getElem?_set_ne (Ne.symm z)] at ej
      obtain ⟨w, a, b⟩ := h.ow j n f' d' ej
      exact ⟨w, by rw [List.getElem?_set_ne (Ne.symm z)]; exact a, b⟩
theorem EV.keep {σ : L2.St} {env : Env1} {Fb' : Bool → Addr → Prop} (h : EV K H1 Fb σ env) (kp : ∀ f, Keep (Fb f) (Fb' f) K H1 H2) (ow : ∀ (a : Addr) o, H1 a = some o → (∀ ps, o ≠ .tbl ps) → H2 a = some o) : EV K H2 Fb' σ env :=
  ⟨h.len, fun i f d e => let ⟨v, a, b⟩ := h.sh i f d e; ⟨v, a, b.keep (kp f)⟩, fun i n f d e => let ⟨v, a, b⟩ := h.ow i n f d e; ⟨v, a, b.keep (kp f) (ow v)⟩⟩
theorem lcGo_cons {c : D → Ex Bool} {f : D → Rs} {d : D} {ds : List D} {fr : Bool} {es : List D} (h : lcGo c f (d :: ds) = some (.ok (fr, es))) :
    ∃ b, c d = some (.ok b) ∧ ((b = true ∧ ∃ kd e fr' es', f d = some (.ok (kd, e)) ∧ lcGo c f ds = some (.ok (fr', es')) ∧ fr = (kd.fr && fr') ∧ es = e :: es') ∨ (b = false ∧ lcGo c f ds = some (.ok (fr, es)))) := by
  rcases bnd_inv (show bnd (c d) _ = _ from h) with ⟨_, _, z⟩ | ⟨b, e1, e2⟩
  · cases z
  · refine ⟨b, e1, ?_⟩
    cases b with
    | false => exact .inr ⟨rfl, e2⟩
    | true =>
      rw [if_pos rfl] at e2
      rcases bnd_inv e2 with ⟨_, _, z⟩ | ⟨⟨kd, e⟩, e3, e4⟩
      · cases z
      · rcases bnd_inv e4 with ⟨_, _, z⟩ | ⟨⟨fr', es'⟩, e5, e6⟩
        · cases z
        · cases e6
          exact .inl ⟨rfl, kd, e, fr', es', e3, e5, rfl, rfl⟩
theorem noErr_inv {α : Type} {r : Ex α} {q : Except Str α} (h : noErr r = some q) : ∃ a, r = some (.ok a) ∧ q = .ok a := by
  cases r with
  | none => cases h
  | some r => cases r with
    | error c => cases h
    | ok a => exact ⟨a, rfl, (Option.some.inj h).symm⟩
/-- the tests of a comprehension -/
def CS (ft : FT) (k : Nat) (N : List Str) (tabs : List Addr) (sc : Scope) (x : XO) (ifs : List Expr) : Prop := (x = .no ∧ ifs = []) ∨ ∃ y e, x = .so y ∧ ifs = [e] ∧ TS' ft k N tabs sc y e
def SC (X : Cx) (ifs : List Expr) : TT := match ifs with
  | [c] => ST X c
  | _ => tYes
theorem pts_S {x : XO} {ifs : List Expr} (h : CS ft k N tabs sc x ifs) (X : Cx) : PTs X ifs (SC X ifs) := by
  rcases h with ⟨_, rfl⟩ | ⟨y, e, _, rfl, _⟩
  · exact pts_nil
  · exact pts_one pt_S
theorem CS.run {x : XO} {ifs : List Expr} (h : CS ft k N tabs sc x ifs) {X : Cx} {W : WX} {σ : L2.St} {env : Env1} {b : Bool} {Q : Bool → Hp → Prop} (A : At ft k N tabs X W sc Fb σ H env) (ev : evC ft x env = some (.ok b))
    (q : ∀ H2, Gr H H2 → Q b H2) : SC X ifs σ H Q := by
  rcases h with ⟨rfl, rfl⟩ | ⟨y, e, rfl, rfl, hy⟩
  · cases ev
    exact q H GrM.refl
  · exact hy X W Fb σ H env _ Q A ev (fun b' z H2 g => by cases z; exact q H2 g) (fun _ z => by cases z)
def teB (X : Cx) (scope : Scope) (elt : Expr) : TE := fun σ H Q => ∀ s H0 C cl fp, SE (X.blk s H0 scope (compEnvC scope cl C X.env) fp) elt σ H Q
def ttB (X : Cx) (scope : Scope) (ifs : List Expr) : TT := fun σ H Q => ∀ s H0 C cl fp, SC (X.blk s H0 scope (compEnvC scope cl C X.env) fp) ifs σ H Q
/-- the reading of a comprehension -/
theorem lc_read {i : Nat} {src : XS} {c : XO} {e : X} {elt iter : Expr} {y : Str} {py : Pos} {ifs : List Expr} {scope : Scope} (hs : SS ft k N tabs sc src iter) 
    (hc : CS ft k N tabs scope c ifs) (he : ES ft k N tabs scope e elt) {X : Cx} {W : WX} {Fb : Bool → Addr → Prop} {σ : L2.St} {H : Hp} {env : Env1} {r : Except Str (Kd × D)} {Q : VK}
    (A : At ft k N tabs X W sc Fb σ H env) (ev : evE ft (.lc i src c e) env = some r) (q : ∀ q, r = .ok q → ∀ v H2, Gr H H2 → VR X.K Fb H H2 q.1 v q.2 → Q v H2) (er : ∀ c, r = .error c → ErrOk X W σ H c) :
    tLc (SI X (.Name y py) iter) (gName i) (ttB X scope ifs) (teB X scope elt) [i] σ H Q := by
  rcases bnd_inv ev with ⟨c0, e1, rfl⟩ | ⟨⟨f, ds⟩, e1, e2⟩
  · exact hs X W Fb σ H env _ _ _ A e1 (fun _ z => by cases z) (errTo er)
  · refine hs X W Fb σ H env _ _ _ A e1 (fun p z J H1 g1 sa => ?_) (fun _ z => by cases z)
    cases z
    intro Dd hD
    split at e2
    · rename_i cnd
      rcases bnd_inv e2 with ⟨c0, e3, rfl⟩ | ⟨⟨fr, es⟩, e3, e4⟩
      · obtain ⟨_, _, z⟩ := noErr_inv e3
        cases z
      · cases e4
        obtain ⟨_, e5, z⟩ := noErr_inv e3
        cases z
        obtain ⟨n, G, Y, w, hn, hG, hY⟩ := sa
        subst hn
        have A1 := A.gr g1
        -- within the block nothing has the new list
        let Fb' : Bool → Addr → Prop := fun f a => Fb f a ∨ a = Dd
        have kp : ∀ {Hx : Hp}, Gr H1 Hx → ∀ f, Keep (Fb f) (Fb' f) X.K H1 Hx := fun g f => GrM.keeps g (fun _ z => z.elim) fun a z y => by
          rcases z with z | z
          · exact absurd z y
          · rw [z]; exact hD
        refine lc_it (g := gName i) (tt := ttB X scope ifs) (te := teB X scope elt) (vs := [i]) (σ := σ) (Qd := fun H => Q (.ref Dd) H) w (fun j Hx => Gr H1 Hx ∧ ∃ acc es1 es2 fr2, Hx Dd = some (.lst acc) ∧ RpA X.K Hx (Fb' fr) acc es1 ∧ acc.length ≤ j ∧ lcGo (fun d => evC ft c (env.set i (.sh f d))) (fun d => evE ft e (env.set i (.sh f d))) (ds.drop j) = some (.ok (fr2, es2)) ∧ (fr = true → fr2 = true) ∧ es1 ++ es2 = es)
          ⟨Gr.new hD, [], [], es, fr, upd_same, .nil, Nat.le_refl _, e5, id, rfl⟩ (fun j Hx _ p => hG Hx p.1) (fun j x Hx Hx2 hj p hy => ?_) (fun Hx p => ?_)
        · obtain ⟨gx, acc, es1, es2, fr2, hacc, racc, lacc, ego, hfr, ees⟩ := p
          obtain ⟨rfl, d, ed, rd⟩ := hY j Hx x Hx2 gx hj hy
          have edr : ds.drop j = d :: ds.drop (j + 1) := by
            rw [List.drop_eq_getElem_cons hj]
            congr 1
            rw [List.getElem?_eq_getElem hj] at ed
            exact Option.some.inj ed
          rw [edr] at ego
          obtain ⟨b, eb, hb2⟩ := lcGo_cons ego
          have rd1 : Rp X.K Hx2 (Fb' f) x d := rd.keep (kp gx f)
          have hDx : Hx2 Dd ≠ none := by rw [hacc]; exact fun z => by cases z
          have fb' : FbOk Hx2 Fb' := ⟨fun a z => z.imp (A1.fb.sub a) id, fun a z => by
            rcases z with z | z
            · exact gx.there a (A1.fb.tr a z)
            · rw [z]; exact hDx⟩
          have ev' : EV X.K Hx2 Fb' σ env := A1.ev.keep (kp gx) fun a o h t => gx.keep a o h id t
          have ev2 : EV X.K Hx2 Fb' ((wipe σ [i]).set i (some x)) (env.set i (.sh f d)) := ev'.set rd1
          have At2 : ∀ s H0 C cl fp, At ft k N tabs (X.blk s H0 scope (compEnvC scope cl C X.env) fp) (fun _ _ _ _ => False) scope Fb' ((wipe σ [i]).set i (some x)) Hx2 (env.set i (.sh f d)) :=
            fun s H0 C cl fp => ⟨A.gc.blk scope s H0 C cl fp, ev2, fb', A1.tb.gr gx⟩
          have wp : wipe ((wipe σ [i]).set i (some x)) [i] = wipe σ [i] := by
            show ((σ.set i none).set i (some x)).set i none = σ.set i none
            rw [List.set_set, List.set_set]
          have lacc2 : acc.length < sizeLine := Nat.lt_of_le_of_lt lacc (Nat.lt_of_lt_of_le hj (lenOk_sz cnd.2))
          refine ⟨wp, ?_⟩
          -- the test
          have step : ∀ Hy, Gr Hx2 Hy → (if b = true then teB X scope elt ((wipe σ [i]).set i (some x)) Hy fun y H4 => ∃ acc, H4 Dd = some (.lst acc) ∧ acc.length < sizeLine ∧
              (Gr H1 (upd H4 Dd (.lst (acc ++ [y]))) ∧ ∃ acc' es1 es2 fr2, (upd H4 Dd (.lst (acc ++ [y]))) Dd = some (.lst acc') ∧ RpA X.K (upd H4 Dd (.lst (acc ++ [y]))) (Fb' fr) acc' es1 ∧ acc'.length ≤ j + 1 ∧ lcGo (fun d => evC ft c (env.set i (.sh f d))) (fun d => evE ft e (env.set i (.sh f d))) (ds.drop (j + 1)) = some (.ok (fr2, es2)) ∧ (fr = true → fr2 = true) ∧ es1 ++ es2 = es)
            else (Gr H1 Hy ∧ ∃ acc es1 es2 fr2, Hy Dd = some (.lst acc) ∧ RpA X.K Hy (Fb' fr) acc es1 ∧ acc.length ≤ j + 1 ∧ lcGo (fun d => evC ft c (env.set i (.sh f d))) (fun d => evE ft e (env.set i (.sh f d))) (ds.drop (j + 1)) = some (.ok (fr2, es2)) ∧ (fr = true → fr2 = true) ∧ es1 ++ es2 = es)) := by
            intro Hy gy
            have haccy : Hy Dd = some (.lst acc) := gy.keep _ _ hacc id (fun _ z => by cases z)
            rcases hb2 with ⟨rfl, kd, e0, fr', es', ef, ego2, efr, ees2⟩ | ⟨rfl, ego2⟩
            · rw [if_pos rfl]
              intro s H0 C cl fp
              refine he _ _ Fb' _ Hy _ _ _ ((At2 s H0 C cl fp).gr gy) ef (fun p z v H4 g4 vr => ?_) (fun _ z => by cases z)
              cases z
              have hacc4 : H4 Dd = some (.lst acc) := g4.keep _ _ haccy id (fun _ z => by cases z)
              have g14 : Gr H1 H4 := (gx.trans gy).trans g4
              have gn : Gr H1 (upd H4 Dd (.lst (acc ++ [v]))) := g14.put_new hD hacc4 (fun _ z => by cases z) (fun _ z => by cases z) (fun _ _ z => by cases z)
              have kp4 : ∀ g0, Keep (Fb' g0) (Fb' g0) X.K H4 (upd H4 Dd (.lst (acc ++ [v]))) := fun g0 =>
                GrM.keeps (M := fun a => a = Dd) (GrM.put hacc4 rfl (fun _ z => by cases z) (fun _ z => by cases z) (fun _ _ z => by cases z)) (fun a z => .inr z) fun a z y => absurd z y
              have hk : fr = true → kd.fr = true := fun z => by
                have := hfr z
                rw [efr, Bool.and_eq_true] at this
                exact this.1
              have fb4 : FbOk H4 Fb' := fb'.gr (gy.trans g4)
              refine ⟨acc, hacc4, lacc2, gn, acc ++ [v], es1 ++ [e0], es', fr', upd_same, ?_, by rw [List.length_append]; exact Nat.succ_le_succ lacc, ego2, fun z => ?_, by rw [List.append_assoc, ← ees, ees2]; rfl⟩
              · refine RpA.keep (kp4 fr) (((racc.gr gy).gr g4).append (.cons ?_ .nil))
                exact vr.1.less (fb4.up hk)
              · have := hfr z
                rw [efr, Bool.and_eq_true] at this
                exact this.2
            · rw [if_neg (by decide)]
              exact ⟨gx.trans gy, acc, es1, es2, fr2, haccy, racc.gr gy, Nat.le_succ_of_le lacc, ego2, hfr, ees⟩
          intro s H0 C cl fp
          refine hc.run (At2 s H0 C cl fp) eb fun Hy gy => ?_
          exact step Hy gy
        · obtain ⟨gx, acc, es1, es2, fr2, hacc, racc, lacc, ego, hfr, ees⟩ := p
          rw [List.drop_length] at ego
          cases ego
          rw [List.append_nil] at ees
          subst ees
          refine q _ rfl (.ref Dd) Hx (g1.trans gx) ⟨.lst (.inl hacc) (fun z => A1.fb.at _ _ z hD) (racc.less fun a z => .inl z), fun _ => ⟨Dd, rfl, ?_, .lst hacc racc⟩⟩
          cases z : H Dd with
          | none => rfl
          | some o => exact absurd hD (g1.there Dd (by rw [z]; exact fun y => by cases y))
    · cases e2
theorem es_lc {i : Nat} {src : XS} {c : XO} {e : X} {elt iter : Expr} {y : Str} {py pos : Pos} {ifs : List Expr} {scope : Scope} (hs : SS ft k N tabs sc src iter) (hns : noSet iter = true) (hb : blkC N sc scope [(y, i)] = true) (hl : locB scope y = true)
    (hc : CS ft k N tabs scope c ifs) (he : ES ft k N tabs scope e elt) : ES ft k N tabs sc (.lc i src c e) (.ListComp elt [⟨.Name y py, iter, ifs, 0⟩] scope pos) := by
  intro X W Fb σ H env r Q A ev q er
  have hNi : X.N[i]? = some y := (A.gc.blkOk hb).ix (y, i) List.mem_cons_self
  have ndN : X.N.Nodup := by rw [A.gc.hN]; exact A.gc.nd
  refine SE.of (pe_lc (own := [(y, i)]) (g := gName i) (te := teB X scope elt) (tt := ttB X scope ifs) A.gc.calm ndN pi_S (A.gc.blkOk hb)
    (fun s H0 C cl fp => pg_name (i := i) (by exact ndN) hNi (.inl ((A.gc.blk scope s H0 C cl fp).loc y hl)) (.inr ((A.gc.blk scope s H0 C cl fp).loc y hl)))
    (fun s H0 C cl fp => ⟨fun pins s1 σ H Q I h => (pts_S hc _).run pins s1 σ H Q I (h s H0 C cl fp)⟩)
    (fun s H0 C cl fp => ⟨fun pins s1 σ H Q I h => h s H0 C cl fp pins s1 I⟩) (fun x => by
      cases iter <;> first | rfl | cases hns)) (lc_read hs hc he A ev q er)
end R
namespace R
open PySem PySem.Spec PyProof.Rows L2
variable {ft : FT} {k : Nat} {N : List Str} {tabs : List Addr} {sc : Scope}
/-! ### list(d.values()) -/
def tVals (to : TE) : TE := fun σ H Q => to σ H fun x H1 => ∃ (a : Addr) (kvs : List (Key × V)), x = .ref a ∧ H1 a = some (.dK kvs) ∧ ∀ p, H1 p = none → Q (.ref p) (upd H1 p (.lst (kvs.map (·.2))))
theorem kv_vals {kvs : List (Key × V)} {vs : List (Key × Value)} (r : KV kvs vs) : Vals (kvs.map (·.2)) (vs.map (·.2)) := by
  unfold KV at r
  induction r with
  | nil => exact .nil
  | cons h t ih => exact .cons h.2 ih
theorem pe_listVals {X : Cx} {o : Expr} {to : TE} {p apos cpos pos : Pos} (hcalm : X.calm = true) (hg : Gl X "list") (hm : X.mg "list" = none) (ho : PE X o to)
    (hbase : attributeBase o "values" X.env (eval o X.env) = eval o X.env) (hline : (apos.endLine == cpos.line) = true) :
    PE X (.Call (.Name "list" p) [.Call (.Attribute o "values" apos) [] [] cpos] [] pos) (tVals to) := by
  have he : starEach [.Call (.Attribute o "values" apos) [] [] cpos] X.env = (false, eval (.Call (.Attribute o "values" apos) [] [] cpos) X.env) :: starEach [] X.env := rfl
  refine ⟨fun pins s σ H Q I h => ?_⟩
  refine wpAny_Call_Name_kw (ld_blt I hg hm (by decide +kernel : bootBuiltins "list" = some (.type "list")) ?_ (by decide) (by decide))
  refine PyProof.Rows.callWith_type1 ?_ he rfl
  rw [he]
  show wpAny _ _ (spliced ((false, eval (.Call (.Attribute o "values" apos) [] [] cpos) X.env) :: backTo pos (starEach [] X.env))) _ _ s
  refine Calls.spliced_cons ?_
  refine wpAny_Call_method0_late hbase hline (thn (ho.run pins s σ H _ I h) fun v s1 ⟨x, H1, I1, r1, a, kvs, ex, hd, q⟩ => ?_)
  subst ex
  cases r1
  obtain ⟨z, lo, vs, rel, dd⟩ := dk_of I1.hok hd
  obtain ⟨ep, hat⟩ := dd.dictAt
  obtain ⟨h1, h2⟩ := tyV_is (T := "dict") I1 (show RelV (V.ref a) (Value.ref a) from rfl) (.inr (.inr (.inl ⟨rfl, .inl ⟨kvs, hd⟩⟩)))
  refine ⟨"dict", "dict.values", PySem.F.plainAttrs_dict, PySem.F.slot_dict_values, PySem.F.type_dict_values, h1, h2, Calls.callWith_builtin rfl (PySem.evalArgs_none ?_)⟩
  refine call_meetsIn PySem.F.slot_dict_values h1 PySem.F.entry_dict_values (PySem.F.args_dict_values_1 _) (meets_dict_values (mixKind X.prog X.w) a lo) ⟨⟨vs, dd⟩, ?_⟩
  refine Calls.spliced_nil ?_
  have hv : ({ s1 with heap := s1.heap.push { cls := .type "dict_values", data := .fields #[.ref a] } } : Shared).heap.IsValuesView s1.heap.objs.size a := ⟨_, Heap.get?_push_size _ rfl, rfl, rfl⟩
  refine PySem.W.kdl_call (PySem.W.kdl_values (knd := mixKind X.prog X.w) (r := s1.heap.objs.size) (d := a) (kvs := vs) (ep := ep)) (I.ok.hd hcalm) ⟨hv, hat.push _⟩ (by rw [← rel.length]; exact z) fun h' tk acc c' hk hD hacc => ?_
  have ea : acc.toList = vs.map (·.2) := PySem.W.kdl_vals_eq _ (by rw [Array.length_toList]; exact hacc.1) fun j v e => hacc.2 j v (by rw [← Array.getElem?_toList]; exact e)
  have hv2 : Vals (kvs.map (·.2)) acc.toList := by rw [ea]; exact kv_vals rel
  have sz : (s1.heap.push { cls := .type "dict_values", data := .fields #[.ref a] }).objs.size = s1.heap.objs.size + 1 := Heap.size_push ..
  refine ⟨.ref (s1.heap.push { cls := .type "dict_values", data := .fields #[.ref a] }).objs.size, upd H1 (s1.heap.push { cls := .type "dict_values", data := .fields #[.ref a] }).objs.size (.lst (kvs.map (·.2))),
    I1.laid (t' := tk) (fun b u e => hk b u (Heap.get?_push_of_some _ e)) (by rw [sz]; exact Nat.le_succ _)
    (show ObjOk X.prog X.w _ _ _ (.lst (kvs.map (·.2))) from ⟨by rw [List.length_map]; exact z, acc.toList, c', hv2, by rw [Array.toArray_toList]; exact hD⟩), rfl, q _ (I1.hok.fresh (by rw [sz]; exact Nat.le_succ _))⟩
theorem es_vals {a : X} {x : Str} {o : Expr} {p apos cpos pos : Pos} (hg : gnB sc "list" x = true) (hs : noSuper o = true) (hl : (apos.endLine == cpos.line) = true) (ha : BS ft k N tabs sc a o) :
    ES ft k N tabs sc (.vals a) (.Call (.Name x p) [.Call (.Attribute o "values" apos) [] [] cpos] [] pos) := by
  intro X W Fb σ H env r Q A ev q er
  obtain ⟨rfl, hgl, hd, _⟩ := gn_inv hg
  refine SE.of (pe_listVals A.gc.calm (A.gc.glb _ hgl) (A.gc.bi _ (by decide +kernel)) pe_S (by cases o <;> first | rfl | cases hs) hl) ?_
  rcases bnd_inv ev with ⟨c, e1, rfl⟩ | ⟨⟨f, d⟩, e1, e2⟩
  · exact ha X W Fb σ H env _ _ A e1 (fun _ z => by cases z) (errTo er)
  · refine ha X W Fb σ H env _ _ A e1 (fun p' z v H2 g b => ?_) (fun _ z => by cases z)
    cases z
    cases d with
    | dict es =>
      cases e2
      obtain ⟨a0, kvs, rfl, hl0, t⟩ := b.dict
      refine ⟨a0, kvs, rfl, hl0, fun p0 n => q _ rfl _ _ (g.trans (Gr.new n)) ?_⟩
      exact (VR.lst (A.fb.gr g) n t.vals).back g
    | _ => cases e2
theorem valsO_inv {e o : Expr} (h : valsO sc e = some o) : ∃ x p apos cpos pos, e = .Call (.Name x p) [.Call (.Attribute o "values" apos) [] [] cpos] [] pos ∧ gnB sc "list" x = true ∧ noSuper o = true ∧ (apos.endLine == cpos.line) = true := by
  unfold valsO at h
  split at h
  · split at h
    · rename_i c
      cases h
      simp only [Bool.and_eq_true, decide_eq_true_eq] at c
      obtain ⟨⟨⟨rfl, c2⟩, c3⟩, c4⟩ := c
      exact ⟨_, _, _, _, _, rfl, c2, c3, c4⟩
    · cases h
  · cases h
end R
namespace R
open PySem PySem.Spec PyProof.Rows L2 GenW
variable {k : Nat} {N : List Str} {tabs : List Addr}
/-! ### a generator expression's own run -/
structure Kept (s s' : Shared) : Prop where
  os : s'.os = s.os
  bare : AllBare s'.gens
  keep : ∀ b o, s.heap.get? b = some o → s'.heap.get? b = some o
theorem inv_kept {X : Cx} {pins : List (Addr × Obj)} {σ : L2.St} {H : Hp} {s s' : Shared} (I : Inv X pins σ H s) (kp : Kept s s') : Inv X pins σ H s' :=
  I.call' (ch := []) kp.os (Un.kept kp.keep) (I.hok.kept kp.keep) kp.bare fun b hb => absurd hb (by simp)
/-- where the generator stands ahead of its j-th item -/
structure GxAt (X : Cx) (pins : List (Addr × Obj)) (fp : List Addr) (tn : Nat → Heap → Prop) (Fb : Bool → Addr → Prop) (env : Env1) (H2 : Hp) (j : Nat) (σ : L2.St) (H : Hp) (s : Shared) : Prop where
  inv : Inv X pins σ H s
  tn : tn j s.heap
  fp : ∀ b ∈ fp, FpOk X pins H b
  gr : Gr H2 H
  ev : EV X.K H Fb σ env
def GxY (X : Cx) (pins : List (Addr × Obj)) (fp : List Addr) (tn : Nat → Heap → Prop) (Fb : Bool → Addr → Prop) (env : Env1) (H2 : Hp) (rs : List (Kd × R.D)) : Protocol := fun m s₀ v s kap =>
  ∃ j kd d y σ H, j + m + 1 = rs.length ∧ rs[j]? = some (kd, d) ∧ RelV y v ∧ VR X.K Fb H2 H kd y d ∧ GxAt X pins fp tn Fb env H2 (j + 1) σ H s ∧ ∀ s', Kept s s' → kap (.send .none) s'
def GxE (X : Cx) (pins : List (Addr × Obj)) (H2 : Hp) : GenEnd := fun n s₀ r s => r = .ok .next ∧ n = 0 ∧ ∃ σ H, Inv X pins σ H s ∧ Gr H2 H
theorem EV.put {K : PySem.W.Frag} {H : Hp} {Fb : Bool → Addr → Prop} {σ : L2.St} {env : Env1} {i : Nat} {v : V} {d : R.D} {f : Bool} (h : EV K H Fb σ env) (r : Rp K H (Fb f) v d) : EV K H Fb (σ.set i (some v)) (env.set i (.sh f d)) := by
  refine ⟨by rw [List.length_set, List.length_set]; exact h.len, fun j f' d' ej => ?_, fun j n f' d' ej => ?_⟩
  · by_cases z : j = i
    · subst z
      have lt : j < env.length := by
        have := (List.getElem?_eq_some_iff.mp ej).1
        rwa [List.length_set] at this
      rw [List.getElem?_set_self lt] at ej
      cases ej
      exact ⟨v, List.getElem?_set_self (by rw [← h.len]; exact lt), r⟩
    · rw [List.getElem?_set_ne (Ne.symm z)] at ej
      obtain ⟨w, a, b⟩ := h.sh j f' d' ej
      exact ⟨w, by rw [List.getElem?_set_ne (Ne.symm z)]; exact a, b⟩
  · by_cases z : j = i
    · subst z
      have lt : j < env.length := by
        have := (List.getElem?_eq_some_iff.mp ej).1
        rwa [List.length_set] at this
      rw [List.getElem?_set_self lt] at ej
      cases ej
    · rw [List.getElem?_set_ne (Ne.symm z)] at ej
      obtain ⟨w, a, b⟩ := h.ow j n f' d' ej
      exact ⟨w, by rw [List.getElem?_set_ne (Ne.symm z)]; exact a, b⟩
theorem EV.over {K : PySem.W.Frag} {H : Hp} {Fb : Bool → Addr → Prop} {σ : L2.St} {env : Env1} {i : Nat} {v : Option V} (h : EV K H Fb σ env) (hi : env[i]? = some .no) : EV K H Fb (σ.set i v) env := by
  refine ⟨by rw [List.length_set]; exact h.len, fun j f' d' ej => ?_, fun j n f' d' ej => ?_⟩
  · have z : j ≠ i := fun z => by rw [z, hi] at ej; cases ej
    obtain ⟨w, a, b⟩ := h.sh j f' d' ej
    exact ⟨w, by rw [List.getElem?_set_ne (Ne.symm z)]; exact a, b⟩
  · have z : j ≠ i := fun z => by rw [z, hi] at ej; cases ej
    obtain ⟨w, a, b⟩ := h.ow j n f' d' ej
    exact ⟨w, by rw [List.getElem?_set_ne (Ne.symm z)]; exact a, b⟩
theorem thnX {X : Cx} (hxe : X.xe = fun _ _ => False) {α : Type} {t : Sem α} {Q Q' : α → Shared → Prop} {M : Model} {A : Around} {E : Value → Shared → Prop} {s : Shared} (h : wpAny M A t Q X.xe s) (hQ : ∀ a s, Q a s → Q' a s) : wpAny M A t Q' E s :=
  wpAny_mono h hQ fun e s z => by rw [hxe] at z; exact z.elim
theorem gx_loop {X : Cx} {ft : FT} {W : WX} {scope : Scope} {A : Around} {pins : List (Addr × Obj)} {fp : List Addr} {it : Addr} {tn : Nat → Heap → Prop} {J : It} {Fb : Bool → Addr → Prop} {env : Env1} {H2 : Hp} {f : Bool} {ds : List R.D} {rs : List (Kd × R.D)}
    {y : Str} {px pos : Pos} {elt iter : Expr} {x : R.X} {i : Nat} (hA : A.over (.compLoop (.GeneratorExp elt [⟨.Name y px, iter, [], 0⟩] scope pos) 0 (.ref it) .none X.env) [] = X.A) (hxe : X.xe = fun _ _ => False) (hcalm : X.calm = true) (T : Turn X.prog X.w X.K (.Name y px) J fp it tn)
    (gc : GC ft k N tabs W X scope) (fb : FbOk H2 Fb) (tb : TB tabs H2) (hco : X.env.scope.isCoroutine = false) (hel : ES ft k N tabs scope x elt) (hy : X.N[i]? = some y) (hyl : X.env.scope.names.lookup y = some .local) (hi : env[i]? = some .no)
    (src : SrcAt X Fb H2 f ds J) (hrl : rs.length = ds.length) (hrs : ∀ (j : Nat) d, ds[j]? = some d → ∃ q, rs[j]? = some q ∧ evE ft x (env.set i (.sh f d)) = some (.ok q)) :
    ∀ (r j : Nat) (s₀ s : Shared) (σ : L2.St) (H : Hp), j + r = ds.length → GxAt X pins fp tn Fb env H2 j σ H s →
      Seg (model X.prog X.w) A (GxE X pins H2) (GxY X pins fp tn Fb env H2 rs) r s₀ (.compLoop (.GeneratorExp elt [⟨.Name y px, iter, [], 0⟩] scope pos) 0 (.ref it) .none X.env)
        ((model X.prog X.w).den (.compLoop (.GeneratorExp elt [⟨.Name y px, iter, [], 0⟩] scope pos) 0 (.ref it) .none X.env)) [] s := by
  obtain ⟨n, G, Y, w, hn, hG, hY⟩ := src
  subst hn
  intro r
  induction r with
  | zero =>
    intro j s₀ s σ H hj g
    have hj' : j = ds.length := by omega
    subst hj'
    show Seg _ A _ _ _ s₀ _ ((compTurn (.GeneratorExp elt [⟨.Name y px, iter, [], 0⟩] scope pos) 0 (.ref it) .none X.env).onRaise (leaving X.env)) [] s
    rw [compTurn_gen, Sem.onRaise_eq_wrap]
    refine seg_bind_wrap (wpAny_standAt ?_)
    refine seg_bind_wrap ?_
    rw [hA]
    refine thnF (T.done X rfl rfl rfl hcalm ds.length pins s σ H (fun _ _ => False) g.inv g.fp g.tn (w.stops H (hG H g.gr))) fun r1 s1 ⟨hr, I1⟩ => ?_
    subst hr
    exact seg_end (.ok .next) ⟨rfl, rfl, σ, H, I1, g.gr⟩
  | succ r ih =>
    intro j s₀ s σ H hj g
    have hlt : j < ds.length := by omega
    show Seg _ A _ _ _ s₀ _ ((compTurn (.GeneratorExp elt [⟨.Name y px, iter, [], 0⟩] scope pos) 0 (.ref it) .none X.env).onRaise (leaving X.env)) [] s
    rw [compTurn_gen, Sem.onRaise_eq_wrap]
    refine seg_bind_wrap (wpAny_standAt ?_)
    refine seg_bind_wrap ?_
    rw [hA]
    refine thnF (T.item X rfl rfl rfl hcalm j pins s σ H (fun _ _ => False) g.inv g.fp g.tn (w.goes j H hlt (hG H g.gr))) fun r1 s1 ⟨u, hr, h6⟩ => ?_
    subst hr
    refine seg_bind_wrap ?_
    rw [hA]
    refine thnF h6 fun _ s7 ⟨v, H7, I7, r7, y7, st7, n7⟩ => ?_
    obtain ⟨rfl, d, ed, rd⟩ := hY j H v H7 g.gr hlt (w.yields j H v H7 hlt (hG H g.gr) y7)
    have f7 : ∀ b ∈ fp, FpOk X pins H7 b := g.fp
    have I7' := I7.pinned f7 (T.obj _ _ st7)
    refine seg_bind_wrap ?_
    rw [hA]
    refine thnX hxe ((pg_name (pos := px) (i := i) (by rw [gc.hN]; exact gc.nd) hy (.inl hyl) (.inr hyl)).run _ s7 σ _ v u (fun σ' H' => σ' = σ.set i (some v) ∧ H' = H7) I7' r7 ⟨rfl, rfl⟩) fun _ s8 ⟨σ8, H8, I8, e8, e9⟩ => ?_
    subst e8 e9
    refine seg_bind_wrap ?_
    simp only [List.forIn_nil]
    refine wpAny_pure ?_
    simp only [if_true]
    have hyo : ∀ v, yieldOut X.env v = yieldValue v := fun v => by simp only [yieldOut, hco, Bool.false_eq_true, if_false]
    simp only [hyo]
    rw [Sem.bind_eq_wrap', Sem.bind_eq_wrap', Sem.wrap_wrap, Sem.wrap_wrap]
    refine seg_wrap ?_
    rw [hA]
    obtain ⟨⟨kd, d2⟩, er, ev⟩ := hrs j d ed
    have At1 : At ft k N tabs X W scope Fb (σ.set i (some v)) H8 (env.set i (.sh f d)) := ⟨gc, g.ev.put (rd.gr g.gr), fb.gr g.gr, tb.gr g.gr⟩
    refine thnX hxe (hel X W Fb _ H8 _ _ (fun yv H9 => Gr H8 H9 ∧ VR X.K Fb H8 H9 kd yv d2) At1 ev (fun q z yv H9 g9 vr => by cases z; exact ⟨g9, vr⟩) (fun _ z => by cases z) _ s8 I8) fun yv s9 ⟨y9, H9, I9, r9, g9, vr9⟩ => ?_
    have pin' : ∀ b ∈ fp, ∀ o, s7.heap.get? b = some o → s9.heap.get? b = some o ∧ H9 b = none := fun b hb o e =>
      let z := I9.pin (b, o) (List.mem_append_right _ (List.mem_append_right _ (mem_pinsAt hb e)))
      ⟨z.1, z.2.1⟩
    have g8 : GxAt X pins fp tn Fb env H2 (j + 1) (σ.set i (some v)) H9 s9 := ⟨I9.unpinned, T.keep _ _ _ st7 fun b hb o e => (pin' b hb o e).1, fun b hb => by
      obtain ⟨o, e, _⟩ := T.obj _ _ st7 b hb
      exact ⟨(pin' b hb o e).2, (f7 b hb).2⟩, g.gr.trans g9, (g.ev.gr g9).over hi⟩
    refine seg_at (seg_yield rfl rfl rfl ⟨j, kd, d2, y9, _, H9, by omega, er, r9, vr9.back g.gr, g8, fun s' kp => ?_⟩)
    exact seg_again rfl (ih (j + 1) s' s' _ H9 (by omega) ⟨inv_kept g8.inv kp, T.keep _ _ _ g8.tn fun b _ o e => kp.keep b o e, g8.fp, g8.gr, g8.ev⟩)
theorem GxAt.kept {X : Cx} {pins : List (Addr × Obj)} {fp : List Addr} {it : Addr} {tn : Nat → Heap → Prop} {J : It} {tg : Expr} {Fb : Bool → Addr → Prop} {env : Env1} {H2 H : Hp} {j : Nat} {σ : L2.St} {s s' : Shared} (T : Turn X.prog X.w X.K tg J fp it tn)
    (g : GxAt X pins fp tn Fb env H2 j σ H s) (kp : Kept s s') : GxAt X pins fp tn Fb env H2 j σ H s' := ⟨inv_kept g.inv kp, T.keep _ _ _ g.tn fun b _ o e => kp.keep b o e, g.fp, g.gr, g.ev⟩
theorem gx_begin {A : Around} {R : GenEnd} {Y : Protocol} {n : Nat} {s₀ s : Shared} {elt target iter : Expr} {ifs : List Expr} {scope : Scope} {pos : Pos} {it : Value} {env : PySem.Env} {prog : Program} {w : World}
    (hs : ∀ (A : Around) (Q : Value → Shared → Prop) (E : Value → Shared → Prop), Q it s → wpAny (model prog w) A (pyIter it) Q E s)
    (loop : Seg (model prog w) A R Y n s₀ (.compLoop (.GeneratorExp elt [⟨target, iter, ifs, 0⟩] scope pos) 0 it .none env) ((model prog w).den (.compLoop (.GeneratorExp elt [⟨target, iter, ifs, 0⟩] scope pos) 0 it .none env)) [] s) :
    Seg (model prog w) A R Y n s₀ (.compStart (.GeneratorExp elt [⟨target, iter, ifs, 0⟩] scope pos) 0 it .none env) ((model prog w).den (.compStart (.GeneratorExp elt [⟨target, iter, ifs, 0⟩] scope pos) 0 it .none env)) [] s := by
  show Seg _ A _ _ _ s₀ _ ((compStart (.GeneratorExp elt [⟨target, iter, ifs, 0⟩] scope pos) 0 it .none env).onRaise (leaving env)) [] s
  unfold compStart
  rw [Sem.onRaise_eq_wrap]
  show Seg _ A _ _ _ s₀ _ ((ask >>= _).wrap _ _ _ _) [] s
  refine seg_bind_wrap (wpAny_askSetting ?_)
  split
  · exact seg_again rfl loop
  · first
      | exact seg_bind_wrap (wpAny_rule (seg_bind_wrap (wpAny_standAt (seg_bind_wrap (hs _ _ _ (seg_again rfl loop))))))
      | (refine seg_bind_wrap (wpAny_rule ?_); show Seg _ A _ _ _ s₀ _ ((standAt iter.pos >>= _).wrap _ _ _ _) [] s; exact seg_bind_wrap (wpAny_standAt (seg_bind_wrap (hs _ _ _ (seg_again rfl loop)))))
/-! ### asleep -/
def GxS (Aw : Around) (X : Cx) (pins : List (Addr × Obj)) (fp : List Addr) (tn : Nat → Heap → Prop) (Fb : Bool → Addr → Prop) (env : Env1) (H2 : Hp) (rs : List (Kd × R.D)) (g : Nat) (j : Nat) (s : Shared) : Prop :=
  ∃ σ H gs, GxAt X pins fp tn Fb env H2 j σ H s ∧ s.gens[g]? = some gs ∧ ∀ s', Kept s s' → gs.Goes (model X.prog X.w) Aw (GxE X pins H2) (GxY X pins fp tn Fb env H2 rs) (rs.length - j) (.send .none) s'
theorem Kept.refl {s : Shared} (h : AllBare s.gens) : Kept s s := ⟨rfl, h, fun _ _ e => e⟩
theorem Kept.trans {s s1 s2 : Shared} (a : Kept s s1) (b : Kept s1 s2) : Kept s s2 := ⟨b.os.trans a.os, b.bare, fun x o e => b.keep x o (a.keep x o e)⟩
theorem Kept.setGen {s : Shared} {g : Nat} {x : GenState} (h : AllBare s.gens) (hx : x.bare = true) : Kept s (s.setGen g x) := ⟨rfl, allBare_setGen h hx, fun _ _ e => e⟩
section
variable {B : Around} {X : Cx} {pins : List (Addr × Obj)} {fp : List Addr} {it : Addr} {tn : Nat → Heap → Prop} {J : It} {tg : Expr} {Fb : Bool → Addr → Prop} {env : Env1} {H2 : Hp} {rs : List (Kd × R.D)} {a : Addr} {g : Nat} {j : Nat} {s : Shared} {go : Obj}
/-- the generator's own object -/
structure GoOk (pins : List (Addr × Obj)) (a : Addr) (g : Nat) (go : Obj) : Prop where
  mem : (a, go) ∈ pins
  gen : ∀ h : Heap, h.get? a = some go → h.IsGen a g
theorem gx_item {Q : Option Value → Shared → Prop} {E : Value → Shared → Prop} (T : Turn X.prog X.w X.K tg J fp it tn) (G : GoOk pins a g go) (hh : B.handled = none) (hroom : B.depth < recursionLimit) (hj : j < rs.length) (h : GxS B.in1 X pins fp tn Fb env H2 rs g j s)
    (hQ : ∀ kd d y v H s', rs[j]? = some (kd, d) → RelV y v → VR X.K Fb H2 H kd y d → GxS B.in1 X pins fp tn Fb env H2 rs g (j + 1) s' → Q (some v) s') : wpAny (model X.prog X.w) B (pyNext (.ref a)) Q E s := by
  obtain ⟨σ, H, gs, ga, hgs, hgo⟩ := h
  have hgl : g < s.gens.size := (Array.getElem?_eq_some_iff.mp hgs).1
  have bare := ga.inv.bare
  have gen : ∀ {σ : L2.St} {H : Hp} {s : Shared}, Inv X pins σ H s → s.heap.IsGen a g := fun I => G.gen _ (I.pin (a, go) (List.mem_append_right _ G.mem)).1
  obtain ⟨m, hm⟩ : ∃ m, rs.length - j = m + 1 := ⟨rs.length - j - 1, by omega⟩
  rw [hm] at hgo
  refine wpAny_gsz (n := g + 1) hgl ?_
  refine wpAny_pyNext_genexpQ (P := fun n _ s₁ => n = 0 ∧ ∃ σ H, Inv X pins σ H s₁ ∧ Gr H2 H) hh ga.inv.nolimit hroom (gen ga.inv) hgs (hgo _ (Kept.setGen bare rfl)) (fun v s₁ gs' hb hv => ?_) (fun s₁ hp h' hk => ?_)
  · intro hsz
    obtain ⟨j', kd, d, y, σ', H', hj', er, rv, vr, g1, hk⟩ := hv
    have ej : j' = j := by omega
    subst ej
    have hsz1 : g < s₁.gens.size := by
      have q : (s₁.setGen g gs').gens.size = s₁.gens.size := setGen_size _ _ _
      have hsz' : g + 1 ≤ (s₁.setGen g gs').gens.size := hsz
      omega
    have k1 : Kept s₁ (s₁.setGen g gs') := Kept.setGen g1.inv.bare hb
    refine hQ kd d y v H' _ er rv vr ⟨σ', H', gs', g1.kept T k1, setGen_at hsz1, fun s' kp => ?_⟩
    have e : rs.length - (j' + 1) = m := by omega
    rw [e]
    exact hk s' (k1.trans kp)
  · exact absurd hp.1 (Nat.succ_ne_zero m)
theorem gx_done {Q : Option Value → Shared → Prop} {E : Value → Shared → Prop} (T : Turn X.prog X.w X.K tg J fp it tn) (G : GoOk pins a g go) (hh : B.handled = none) (hroom : B.depth < recursionLimit) (h : GxS B.in1 X pins fp tn Fb env H2 rs g rs.length s)
    (hQ : ∀ σ H s', Inv X pins σ H s' → Gr H2 H → Q none s') : wpAny (model X.prog X.w) B (pyNext (.ref a)) Q E s := by
  obtain ⟨σ, H, gs, ga, hgs, hgo⟩ := h
  have bare := ga.inv.bare
  have gen : ∀ {σ : L2.St} {H : Hp} {s : Shared}, Inv X pins σ H s → s.heap.IsGen a g := fun I => G.gen _ (I.pin (a, go) (List.mem_append_right _ G.mem)).1
  rw [Nat.sub_self] at hgo
  refine wpAny_pyNext_genexpQ (P := fun n _ s₁ => n = 0 ∧ ∃ σ H, Inv X pins σ H s₁ ∧ Gr H2 H) hh ga.inv.nolimit hroom (gen ga.inv) hgs (hgo _ (Kept.setGen bare rfl)) (fun v s₁ gs' hb hv => ?_) (fun s₁ hp h' hk => ?_)
  · obtain ⟨j', kd, d, y, σ', H', hj', er, rv, vr, g1, hk⟩ := hv
    exact False.elim (hk s₁ (Kept.refl g1.inv.bare))
  · obtain ⟨_, σ', H', I1, gr⟩ := hp
    exact hQ σ' H' _ (inv_kept I1 ⟨rfl, allBare_setGen I1.bare rfl, hk⟩) gr
/-! ### all, any -/
theorem VR.vbool {K : PySem.W.Frag} {H1 H2 : Hp} {kd : Kd} {y : V} {b : Bool} {v : Value} (vr : VR K Fb H1 H2 kd y (.bool b)) (rv : RelV y v) : v = .bool b := by
  have e : y = .bl b := Bw.bool (.sh vr.1)
  subst e
  exact rv
theorem GxS.inv {Aw : Around} (h : GxS Aw X pins fp tn Fb env H2 rs g j s) : ∃ σ H, Inv X pins σ H s ∧ Gr H2 H := let ⟨σ, H, _, ga, _⟩ := h; ⟨σ, H, ga.inv, ga.gr⟩
theorem gx_all {A : Around} {R : Result → Shared → Prop} (T : Turn X.prog X.w X.K tg J fp it tn) (G : GoOk pins a g go) (hh : A.handled = none) (hroom : A.depth < recursionLimit) (bs : List Bool) (hl : rs.length = bs.length)
    (hrs : ∀ (j : Nat) q b, rs[j]? = some q → bs[j]? = some b → q.2 = .bool b) : ∀ (r j : Nat) (s : Shared), j + r = rs.length → GxS A.in1.in1 X pins fp tn Fb env H2 rs g j s →
    (∀ σ H s', Inv X pins σ H s' → Gr H2 H → R (.ok (.ret (.bool ((bs.drop j).all id)))) s') → codeAny (model X.prog X.w) A (.builtin "all.loop" ⟨[.ref a], []⟩) R s := by
  intro r
  induction r with
  | zero =>
    intro j s hj st hR
    have hj' : j = rs.length := by omega
    subst hj'
    refine codeAny_builtin F.entry_all_loop ?_
    rw [Around.under_plainId F.plain_all_loop _]
    show wpAny _ A.in1 (pyNext (.ref a) >>= _) _ _ s
    refine wpAny_bind (gx_done (B := A.in1) T G hh hroom st fun σ H s' I gr => ?_)
    refine wpAny_bind (wpAny_rule (wpAny_pure ?_))
    have := hR σ H s' I gr
    rw [List.drop_of_length_le (by omega)] at this
    exact this
  | succ r ih =>
    intro j s hj st hR
    have hlt : j < rs.length := by omega
    have hb : j < bs.length := by omega
    have hd : bs.drop j = bs[j] :: bs.drop (j + 1) := List.drop_eq_getElem_cons hb
    refine codeAny_builtin F.entry_all_loop ?_
    rw [Around.under_plainId F.plain_all_loop _]
    show wpAny _ A.in1 (pyNext (.ref a) >>= _) _ _ s
    refine wpAny_bind (gx_item (B := A.in1) T G hh hroom hlt st fun kd d y v H s' er rv vr st' => ?_)
    have ed := hrs j _ bs[j] er (List.getElem?_eq_getElem hb)
    simp only at ed
    subst ed
    have ev := VR.vbool vr rv
    subst ev
    refine wpAny_bind (wpAny_holding (wpAny_truthy_bool ?_))
    refine wpAny_bind (wpAny_letGo ?_)
    cases hc : bs[j] with
    | true =>
      simp only [if_true]
      refine wpAny_pure ⟨plainId_quiet F.plain_all_loop _, ih (j + 1) _ (by omega) st' fun σ H s'' I gr => ?_⟩
      have := hR σ H s'' I gr
      rw [hd, List.all_cons, hc] at this
      simpa using this
    | false =>
      simp only [Bool.false_eq_true, if_false]
      refine wpAny_bind (wpAny_rule (wpAny_pure ?_))
      obtain ⟨σ, H, I, gr⟩ := st'.inv
      have := hR σ H s' I gr
      rw [hd, List.all_cons, hc] at this
      simpa using this
theorem gx_any {A : Around} {R : Result → Shared → Prop} (T : Turn X.prog X.w X.K tg J fp it tn) (G : GoOk pins a g go) (hh : A.handled = none) (hroom : A.depth < recursionLimit) (bs : List Bool) (hl : rs.length = bs.length)
    (hrs : ∀ (j : Nat) q b, rs[j]? = some q → bs[j]? = some b → q.2 = .bool b) : ∀ (r j : Nat) (s : Shared), j + r = rs.length → GxS A.in1.in1 X pins fp tn Fb env H2 rs g j s →
    (∀ σ H s', Inv X pins σ H s' → Gr H2 H → R (.ok (.ret (.bool ((bs.drop j).any id)))) s') → codeAny (model X.prog X.w) A (.builtin "any.loop" ⟨[.ref a], []⟩) R s := by
  intro r
  induction r with
  | zero =>
    intro j s hj st hR
    have hj' : j = rs.length := by omega
    subst hj'
    refine codeAny_builtin F.entry_any_loop ?_
    rw [Around.under_plainId F.plain_any_loop _]
    show wpAny _ A.in1 (pyNext (.ref a) >>= _) _ _ s
    refine wpAny_bind (gx_done (B := A.in1) T G hh hroom st fun σ H s' I gr => ?_)
    refine wpAny_bind (wpAny_rule (wpAny_pure ?_))
    have := hR σ H s' I gr
    rw [List.drop_of_length_le (by omega)] at this
    exact this
  | succ r ih =>
    intro j s hj st hR
    have hlt : j < rs.length := by omega
    have hb : j < bs.length := by omega
    have hd : bs.drop j = bs[j] :: bs.drop (j + 1) := List.drop_eq_getElem_cons hb
    refine codeAny_builtin F.entry_any_loop ?_
    rw [Around.under_plainId F.plain_any_loop _]
    show wpAny _ A.in1 (pyNext (.ref a) >>= _) _ _ s
    refine wpAny_bind (gx_item (B := A.in1) T G hh hroom hlt st fun kd d y v H s' er rv vr st' => ?_)
    have ed := hrs j _ bs[j] er (List.getElem?_eq_getElem hb)
    simp only at ed
    subst ed
    have ev := VR.vbool vr rv
    subst ev
    refine wpAny_bind (wpAny_holding (wpAny_truthy_bool ?_))
    refine wpAny_bind (wpAny_letGo ?_)
    cases hc : bs[j] with
    | false =>
      simp only [Bool.false_eq_true, if_false]
      refine wpAny_pure ⟨plainId_quiet F.plain_any_loop _, ih (j + 1) _ (by omega) st' fun σ H s'' I gr => ?_⟩
      have := hR σ H s'' I gr
      rw [hd, List.any_cons, hc] at this
      simpa using this
    | true =>
      simp only [if_true]
      refine wpAny_bind (wpAny_rule (wpAny_pure ?_))
      obtain ⟨σ, H, I, gr⟩ := st'.inv
      have := hR σ H s' I gr
      rw [hd, List.any_cons, hc] at this
      simpa using this
end
end R
namespace R
open PySem PySem.Spec PyProof.Rows L2 GenW
variable {k : Nat} {N : List Str} {tabs : List Addr}
/-! ### a generator expression is made -/
def gxCx (X : Cx) (A : Around) (s : Shared) (H : Hp) (genv : PySem.Env) (fp : List Addr) : Cx where
  prog := X.prog
  w := X.w
  K := X.K
  mg := X.mg
  base := X.base
  A := A
  N := X.N
  s_0 := s
  H_0 := H
  env := genv
  outer := X.stack
  stack := genv :: X.stack
  ex := fp
  fn := fun _ => false
  calm := true
  pn := []
  xe := fun _ _ => False
theorem gx_start {X : Cx} {A : Around} {pins : List (Addr × Obj)} {fp : List Addr} {σ : L2.St} {H : Hp} {s s5 : Shared} {scope : Scope} {y : Str} {code : Value} {bi : Addr} {ws : List Nat} {m0 : Str → Option Value} {a : Addr} {go : Obj} (I : Inv X pins σ H s) (S : GxR.GenS X.env scope y)
    (hws : ∀ (j : Nat) z, j ∉ ws → X.N[j]? = some z → scope.names.lookup z = some .free) (hfree : ∀ z ∈ scope.names, z.2 = .free → (X.env.scope.names.lookup z.1 = some .cell ∨ X.env.scope.names.lookup z.1 = some .free))
    (hA : A.frames = some (genEnv scope (cloFrom X.env.cells scope.names []) s.heap.objs.size code bi X.env :: X.stack)) (hh : A.handled = none) (hfp : ∀ b ∈ fp, FpOk X pins H b ∧ b < s.heap.objs.size)
    (os : s5.os = s.os) (bare : AllBare s5.gens) (keep : ∀ b o, s.heap.get? b = some o → s5.heap.get? b = some o) (ns : s5.heap.Ns s.heap.objs.size m0) (hbi : bi = builtinsNs)
    (ha : s5.heap.get? a = some go) (hag : s.heap.objs.size < a) (hgd : ∀ v, go.data ≠ .cell v) :
    Inv (gxCx X A s H (genEnv scope (cloFrom X.env.cells scope.names []) s.heap.objs.size code bi X.env) fp) [(a, go)] (wipe σ ws) H s5 := by
  have cm : ∀ {z c}, (cloFrom X.env.cells scope.names []).lookup z = some c → X.env.cells.lookup z = some c := fun {z c} e => by
    rcases cloFrom_mem (PySem.mem_of_lookup e) with hm | ⟨h1, rfl⟩
    · cases hm
    · obtain ⟨c0, hc⟩ := I.ok.has z (hfree _ h1 rfl)
      rw [hc]; rfl
  have look : ∀ {z}, scope.names.lookup z = some .free → ∃ c, (cloFrom X.env.cells scope.names []).lookup z = some c ∧ X.env.cells.lookup z = some c := fun {z} hl => by
    obtain ⟨c, e⟩ := mem_lookup (cloFrom_has (cells := X.env.cells) (acc := []) (PySem.mem_of_lookup hl))
    exact ⟨c, e, cm e⟩
  have clt : ∀ {z c}, X.env.cells.lookup z = some c → c < s.heap.objs.size := fun {z c} e => by
    obtain ⟨v, q⟩ := I.cell z c e
    exact q.lt
  have okB : (gxCx X A s H (genEnv scope (cloFrom X.env.cells scope.names []) s.heap.objs.size code bi X.env) fp).Ok := by
    refine ⟨I.ok.mod, S.kind, I.ok.glob, hbi, Nat.le_refl _, fun z1 z2 c e1 e2 => I.ok.inj z1 z2 c (cm e1) (cm e2), fun z hz => ?_, fun z c h => (by cases h), fun _ => hh, hA, .inr ⟨rfl, rfl⟩, fun b hb => ⟨Nat.ne_of_lt (hfp b hb).2, fun z c e => (hfp b hb).1.2.2.2.2.1 z c (cm e)⟩,
      I.bs, Nat.le_trans I.ok.bsz I.sz, fun b o e hb => ?_, fun b hb z => ?_, I.stack, I.stkFree⟩
    · have hz' : scope.names.lookup z = some .cell ∨ scope.names.lookup z = some .free := hz
      rcases hz' with h | h
      · exact absurd rfl (S.cell _ (PySem.mem_of_lookup h))
      · obtain ⟨c, e, _⟩ := look h
        exact ⟨c, e⟩
    · rcases (hfp b hb).1.2.2.2.1 with z | z
      · exact I.ok.noex b o e z
      · exact absurd (Nat.lt_of_lt_of_le (Heap.lt_size e) (Nat.le_trans I.ok.bsz z)) (Nat.lt_irrefl _)
    · rcases List.mem_cons.mp (I.stkSub b z) with z | z
      · exact (hfp b hb).1.2.1 z
      · exact (hfp b hb).1.2.2.1 z
  refine ⟨okB, os, bare, Un.kept keep, ⟨m0, ns, fun i z v e1 e2 _ => ?_⟩, fun z c e => ?_, I.hok.fresh (Nat.le_refl _), fun z c e => I.freeC z c (cm e), fun p hp => ?_, I.hok.kept keep, by rw [wipe_length]; exact I.len⟩
  · obtain ⟨e3, hn⟩ := wipe_some e2
    have hf := hws i z hn e1
    have hx := hfree _ (PySem.mem_of_lookup hf) rfl
    obtain ⟨m, _, hl⟩ := I.loc
    obtain ⟨u, r, q⟩ := hl i z v e1 e3 (hx.elim (fun k => .inr (.inl k)) (fun k => .inr (.inr k)))
    refine ⟨u, r, .inr ⟨.inr hf, ?_⟩⟩
    obtain ⟨c, h1, h2⟩ := look hf
    rcases q with ⟨kd, _⟩ | ⟨_, c', e', hc⟩
    · have kd : X.env.scope.names.lookup z = some .local := kd
      rcases hx with h | h <;> rw [show X.env.scope.names.lookup z = _ from h] at kd <;> cases kd
    · rw [h2] at e'; cases e'
      exact ⟨c, h1, hc.keeps keep⟩
  · obtain ⟨v, q⟩ := I.cell z c (cm e)
    exact ⟨v, q.keeps keep⟩
  · have hp' : p = (a, go) := by simpa [gxCx] using hp
    subst hp'
    refine ⟨ha, I.hok.fresh (Nat.le_of_lt hag), Nat.ne_of_gt hag, fun z => ?_, hgd⟩
    rcases List.mem_cons.mp (I.stkSub a z) with z | z
    · exact absurd (Nat.lt_trans hag (by rw [z]; exact I.lt)) (Nat.lt_irrefl _)
    · exact I.nofs (Nat.le_of_lt hag) z
theorem gr_tab {H : Hp} {P : Addr} {ps more : Array Value} (hP : H P = some (.tbl ps)) (ht : TriplesOk (ps ++ more).toList) : Gr H (upd H P (.tbl (ps ++ more))) := by
  refine ⟨fun a o e _ t => ?_, fun Q h => ?_, fun a h => ?_, fun a xs e => ?_, fun a o u e => ?_, fun a o u e => ?_⟩
  · have z : a ≠ P := fun z => by rw [z, hP] at e; cases e; exact t _ rfl
    rw [upd_ne z]; exact e
  · by_cases z : Q = P
    · rw [z]; exact ⟨_, upd_same, ht⟩
    · obtain ⟨qs, e, t⟩ := h
      exact ⟨qs, by rw [upd_ne z]; exact e, t⟩
  · by_cases z : a = P
    · rw [z, upd_same]; intro q; cases q
    · rw [upd_ne z]; exact h
  · have z : a ≠ P := fun z => by rw [z, hP] at e; cases e
    rw [upd_ne z]; exact e
  · have z : a ≠ P := fun z => by rw [z, hP] at e; cases e
    rw [upd_ne z]; exact e
  · have z : a ≠ P := fun z => by rw [z, upd_same] at e; cases e
    rw [upd_ne z] at e; exact e
/-- a generator that has not begun: what its consumer needs -/
def GxMade (X : Cx) (pins : List (Addr × Obj)) (σ : L2.St) (H : Hp) (Fb : Bool → Addr → Prop) (y : Str) (px : Pos) (rs : List (Kd × R.D)) (u : Value) (s5 : Shared) : Prop :=
  ∃ (Xg : Cx) (pg : List (Addr × Obj)) (fp : List Addr) (it : Addr) (tn : Nat → Heap → Prop) (J : It) (env' : Env1) (H2 : Hp) (a : Addr) (g : Nat) (go : Obj), u = .ref a ∧ Xg.prog = X.prog ∧ Xg.w = X.w ∧ Xg.K = X.K ∧ Turn Xg.prog Xg.w Xg.K (.Name y px) J fp it tn ∧ GoOk pg a g go ∧
    s5.heap.IsGen a g ∧ Gr H H2 ∧ GxS X.A.in1.in1 Xg pg fp tn Fb env' H2 rs g 0 s5 ∧ ∀ σ' H' s', Inv Xg pg σ' H' s' → Inv X pins σ H' s'
theorem over_gx {A : Around} {elt target iter : Expr} {ifs : List Expr} {scope : Scope} {pos : Pos} {it : Value} {genv : PySem.Env} {outer : List PySem.Env} (h : A.frames = some outer) :
    (A.over (.compLoop (.GeneratorExp elt [⟨target, iter, ifs, 0⟩] scope pos) 0 it .none genv) []).frames = some (genv :: outer) := by
  show A.frames.map _ = _
  rw [h]; rfl
theorem gx_make {X : Cx} {ft ft' : FT} {W : WX} {sc scope : Scope} {pins : List (Addr × Obj)} {σ : L2.St} {H : Hp} {s : Shared} {Fb : Bool → Addr → Prop} {env : Env1} {c P : Addr} {y : Str} {px gpos : Pos} {elt iter : Expr} {x : R.X} {i : Nat} {ws : List Nat} {src : XS} {r : Except Str (Bool × List R.D)}
    {Q' : Value → Shared → Prop} (env' : Env1) (A : At ft k N tabs X W sc Fb σ H env) (hroom : Room (k + 1) X.A) (TB : GxR.TabB X.base X.mg c P) (hcode : X.env.code = .ref c) (hP : P ∈ tabs) (S : GxR.GenS X.env scope y)
    (hws : ∀ (j : Nat) z, j ∉ ws → N[j]? = some z → scope.names.lookup z = some .free) (hfree : ∀ z ∈ scope.names, z.2 = .free → (X.env.scope.names.lookup z.1 = some .cell ∨ X.env.scope.names.lookup z.1 = some .free))
    (hfold : ∀ v, genFold iter X.env v = pure v) (hsrc : SS ft k N tabs sc src iter) (hel : ES ft' k N tabs scope x elt) (hy : N[i]? = some y) (hi : env'[i]? = some .no)
    (hev : ∀ {H' : Hp}, EV X.K H' Fb σ env → EV X.K H' Fb (wipe σ ws) env')
    (gcg : ∀ (Xg : Cx), Xg.mg = X.mg → Xg.prog = X.prog → Xg.w = X.w → Xg.K = X.K → Xg.base = X.base → Xg.N = X.N → Xg.calm = true → Xg.env.scope = scope → Room k Xg.A → GC ft' k N tabs (fun _ _ _ _ => False) Xg scope)
    (ev : evS ft src env = some r) (I : Inv X pins σ H s)
    (q : ∀ f ds, r = .ok (f, ds) → ∃ rs, rs.length = ds.length ∧ (∀ (j : Nat) d, ds[j]? = some d → ∃ q, rs[j]? = some q ∧ evE ft' x (env'.set i (.sh f d)) = some (.ok q)) ∧ ∀ u s5, GxMade X pins σ H Fb y px rs u s5 → Q' u s5)
    (er : ∀ c, r = .error c → ErrOk X W σ H c) : wpAny (model X.prog X.w) X.A (eval (.GeneratorExp elt [⟨.Name y px, iter, [], 0⟩] scope gpos) X.env) Q' X.xe s := by
  refine wpAny_GeneratorExp_make S.co (closure_ok S.free) S.cell S.dot S.kind (by have := hroom.dp; omega) ?_ hfold
  refine thn ((hsrc X W Fb σ H env r (.Name y px) (fun J H1 => Gr H H1 ∧ ∃ f ds, r = .ok (f, ds) ∧ SrcAt X Fb H1 f ds J) A ev (fun q z J H1 g sa => ⟨g, q.1, q.2, z, sa⟩) er) pins s I) fun xv s1 h1 => thn h1 fun itv s2 h2 => ?_
  obtain ⟨it, fp, tn, J, H1, rfl, I2, T, st2, f2, g1, f, ds, er0, sa⟩ := h2
  subst er0
  obtain ⟨rs, hrl, hrs, hQ⟩ := q f ds rfl
  refine ⟨I2.nolimit, ?_⟩
  obtain ⟨ps, hPs0, ht⟩ := (A.tb.gr g1) P hP
  have hPs : s2.heap.get? P = some { cls := .none, data := .fields ps } := I2.hok P _ hPs0
  have cd : PySem.W.CodeHd s2.heap c P := TB.code.keeps fun b u e => I2.bk b u e
  have sz : ∀ b ∈ fp, b < s2.heap.objs.size := fun b hb => by
    obtain ⟨o, e, _⟩ := T.obj _ _ st2 b hb
    exact Heap.lt_size e
  have nP : ∀ b ∈ fp, b ≠ P := fun b hb z => by
    have := (f2 b hb).1
    rw [z, hPs0] at this; cases this
  -- behind the code
  have cont : ∀ (code : Value) (s3 : Shared) (H3 : Hp), Inv X pins σ H3 s3 → Gr H1 H3 → tn 0 s3.heap → (∀ b ∈ fp, FpOk X pins H3 b ∧ b < s3.heap.objs.size) →
      wpAny (model X.prog X.w) X.A (builtinsFor X.env.globals X.env.builtins) (fun bi s₄ => ∀ h', h'.Ns s₄.heap.objs.size (fun z => if z = ".0" then some (.ref it) else none) → Heap.SameBut s₄.heap.objs.size (s₄.heap.push { cls := .type "frame", data := .dict #[] }) h' →
          Q' (.ref h'.objs.size) { s₄ with
            gens := s₄.gens.push (.fresh (.compStart (.GeneratorExp elt [⟨.Name y px, iter, [], 0⟩] scope gpos) 0 (.ref it) .none (genEnv scope (cloFrom X.env.cells scope.names []) s₄.heap.objs.size code bi X.env))),
            toks := s₄.toks + 1 + 1 + 1,
            heap := h'.push { cls := .type "generator", data := .fields #[.int s₄.gens.size 0, .str "<genexpr>" (s₄.toks + 1), .str (X.env.qual ++ "<genexpr>") (s₄.toks + 1 + 1)] } }) X.xe s3 := by
    intro code s3 H3 I3 g3 st3 f3
    obtain ⟨bm, ob, e1, e2, e3, e4, e5, e6, e7, e8⟩ := TB.bm
    refine wpAny_builtinsFor (m := X.mg) (by rw [I3.ok.glob]; exact I3.ok.mod.glob.keeps I3.bk) e1 e2 (I3.bk _ _ e5) e6 e7 e8 ?_
    intro h' hn' hs'
    have hsz : h'.objs.size = s3.heap.objs.size + 1 := by rw [hs'.1, Heap.size_push]
    have keep' : ∀ b o, s3.heap.get? b = some o → h'.get? b = some o := fun b o e => hs'.extBut b o (Nat.ne_of_lt (Heap.lt_size e)) (Heap.get?_push_of_some _ e)
    generalize hgo : ({ cls := .type "generator", data := .fields #[.int s3.gens.size 0, .str "<genexpr>" (s3.toks + 1), .str (X.env.qual ++ "<genexpr>") (s3.toks + 1 + 1)] } : Obj) = go
    generalize hgenv : genEnv scope (cloFrom X.env.cells scope.names []) s3.heap.objs.size code builtinsNs X.env = genv
    generalize hs5 : ({ s3 with gens := s3.gens.push (.fresh (.compStart (.GeneratorExp elt [⟨.Name y px, iter, [], 0⟩] scope gpos) 0 (.ref it) .none genv)), toks := s3.toks + 1 + 1 + 1, heap := h'.push go } : Shared) = s5
    have h5 : s5.heap = h'.push go := by rw [← hs5]
    have keep5 : ∀ b o, s3.heap.get? b = some o → s5.heap.get? b = some o := fun b o e => by rw [h5]; exact Heap.get?_push_of_some _ (keep' b o e)
    have ha5 : s5.heap.get? h'.objs.size = some go := by rw [h5, ← hgo]; exact Heap.get?_push_size _ rfl
    have hgen : ∀ h : Heap, h.get? h'.objs.size = some go → h.IsGen h'.objs.size s3.gens.size := fun h e => ⟨go, _, _, e, by rw [← hgo], by rw [← hgo], by rw [← hgo]⟩
    have bare5 : AllBare s5.gens := by rw [← hs5]; exact AllBare.push I3.bare rfl
    have gens5 : s5.gens[s3.gens.size]? = some (.fresh (.compStart (.GeneratorExp elt [⟨.Name y px, iter, [], 0⟩] scope gpos) 0 (.ref it) .none genv)) := by rw [← hs5]; exact Array.getElem?_push_size ..
    have hfr : X.A.in1.in1.frames = some X.stack := I3.ok.frames
    have hAr : Room k (X.A.in1.in1.over (.compLoop (.GeneratorExp elt [⟨.Name y px, iter, [], 0⟩] scope gpos) 0 (.ref it) .none genv) []) := by
      refine ⟨hroom.hd, ?_, ?_⟩
      · have := hroom.dp
        show X.A.depth + 1 + 3 * k + 5 < _
        omega
      · have := hroom.un
        show X.A.units + 1 + 1 + 3 + 16 * k + 200 < _
        omega
    have hns5 : s5.heap.Ns s3.heap.objs.size (fun z => if z = ".0" then some (.ref it) else none) := by rw [h5]; exact hn'.push _
    have hfrA := over_gx (elt := elt) (target := .Name y px) (iter := iter) (ifs := []) (scope := scope) (pos := gpos) (it := .ref it) (genv := genv) hfr
    rw [← hgenv] at hfrA
    have J5 := gx_start (code := code) (ws := ws) (a := h'.objs.size) (go := go) I3 S (fun j z hj e => hws j z hj (by rw [← A.gc.hN]; exact e)) hfree hfrA hAr.hd f3 (by rw [← hs5]) bare5 keep5 hns5 rfl ha5 (by rw [hsz]; exact Nat.lt_succ_self _) (by rw [← hgo]; intro v z; cases z)
    rw [hgenv] at J5
    generalize hXg : gxCx X (X.A.in1.in1.over (.compLoop (.GeneratorExp elt [⟨.Name y px, iter, [], 0⟩] scope gpos) 0 (.ref it) .none genv) []) s3 H3 genv fp = Xg at J5
    have eenv : Xg.env = genv := by rw [← hXg]; rfl
    have escope : genv.scope = scope := by rw [← hgenv]; rfl
    have gcX : GC ft' k N tabs (fun _ _ _ _ => False) Xg scope := gcg Xg (by rw [← hXg]; rfl) (by rw [← hXg]; rfl) (by rw [← hXg]; rfl) (by rw [← hXg]; rfl) (by rw [← hXg]; rfl) (by rw [← hXg]; rfl) (by rw [← hXg]; rfl) (by rw [eenv]; exact escope) (by rw [← hXg]; exact hAr)
    have TX : Turn Xg.prog Xg.w Xg.K (.Name y px) J fp it tn := by rw [← hXg]; exact T
    have fpX : ∀ b ∈ fp, FpOk Xg [(h'.objs.size, go)] H3 b := fun b hb => by
      refine ⟨(f3 b hb).1.1, (J5.ok.exf b (by rw [← hXg]; exact hb)).1, J5.ok.exfs b (by rw [← hXg]; exact hb), .inl (by rw [← hXg]; exact hb), fun z c e => (J5.ok.exf b (by rw [← hXg]; exact hb)).2 z c e, fun p hp z => ?_⟩
      have hp' : p = (h'.objs.size, go) := by rw [← hXg] at hp; simpa [gxCx] using hp
      subst hp'
      have hlt := (f3 b hb).2
      have z' : h'.objs.size = b := z
      rw [← z', hsz] at hlt
      exact absurd hlt (Nat.not_lt.mpr (Nat.le_succ _))
    have st5 : tn 0 s5.heap := T.keep _ _ _ st3 fun b _ o e => keep5 b o e
    have ev3 : EV Xg.K H3 Fb (wipe σ ws) env' := by rw [← hXg]; exact hev (A.ev.gr (g1.trans g3))
    have ga : GxAt Xg [(h'.objs.size, go)] fp tn Fb env' H3 0 (wipe σ ws) H3 s5 := ⟨J5, st5, fpX, GrM.refl, ev3⟩
    have sa3 : SrcAt Xg Fb H3 f ds J := by
      obtain ⟨n, G, Y, w, hn, hG, hY⟩ := sa
      refine ⟨n, G, Y, w, hn, fun H' g' => hG H' (g3.trans g'), fun j Hx v Hy gx hj yy => ?_⟩
      obtain ⟨e, d, ed, rd⟩ := hY j Hx v Hy (g3.trans gx) hj yy
      refine ⟨e, d, ed, ?_⟩
      rw [← hXg]
      exact rd.gr g3
    refine hQ _ s5 ⟨Xg, [(h'.objs.size, go)], fp, it, tn, J, env', H3, h'.objs.size, s3.gens.size, go, rfl, by rw [← hXg]; rfl, by rw [← hXg]; rfl, by rw [← hXg]; rfl, TX, ⟨List.mem_singleton.mpr rfl, hgen⟩, hgen _ ha5, g1.trans g3, ⟨_, H3, _, ga, gens5, fun s' kp => ⟨rfl, ?_⟩⟩, fun σ' H' s' J' => ?_⟩
    · rw [Nat.sub_zero]
      refine gx_begin (fun A' Q E h => TX.self A' 0 s' Q E (T.keep _ _ _ st5 fun b _ o e => kp.keep b o e) h) ?_
      have lp := gx_loop (A := X.A.in1.in1) (px := px) (pos := gpos) (iter := iter) (elt := elt) (scope := scope) (x := x) (X := Xg) (pins := [(h'.objs.size, go)]) (by rw [eenv, ← hXg]; rfl) (by rw [← hXg]; rfl) (by rw [← hXg]; rfl) TX gcX (A.fb.gr (g1.trans g3)) (A.tb.gr (g1.trans g3)) (by rw [eenv, escope]; exact S.co) hel
        (by rw [gcX.hN]; exact hy) (by rw [eenv, escope]; exact S.loc) hi sa3 hrl hrs rs.length 0 s' s' (wipe σ ws) H3 (by omega) (ga.kept TX kp)
      rw [eenv] at lp
      exact lp
    · rw [← hXg] at J'
      exact I3.call' (ch := fp) J'.os J'.base J'.hok J'.bare fun b hb => ⟨(f3 b hb).1.2.2.2.1, (f3 b hb).1.2.1, (f3 b hb).1.2.2.2.2.1, (f3 b hb).1.2.2.2.2.2⟩
  cases hf : codeAmong gpos ps.toList with
  | none =>
    refine wpAny_genexprCodeX hcode (cd.code hPs ht) (cd.tab hPs) hf fun c' h' tk hx hge hlt hco' _ htab' _ => ?_
    obtain ⟨o1, vs, f1, tf, fl, tg, inF, tx, tt, op, _, _, _, _, _, _, _, _, _, htr, _⟩ := hco'
    have I3 := GxR.inv_tab (more := #[rawInt gpos.line, rawInt gpos.col, .ref c']) (h' := h') (g' := s2.gens) (d' := s2.drawn) (t' := tk) I2 hPs0 (fun b o hb e => hx b o hb e) htab'.2 I2.bare
    have st3 : tn 0 h' := T.keep _ _ _ st2 fun b hb o e => hx b o (nP b hb) e
    refine cont _ { s2 with heap := h', toks := tk } _ I3 (gr_tab hPs0 htr) st3 fun b hb => ⟨⟨by rw [upd_ne (nP b hb)]; exact (f2 b hb).1, (f2 b hb).2⟩, Nat.lt_of_lt_of_le (sz b hb) (Nat.le_trans hge (Nat.le_of_lt hlt))⟩
  | some cv =>
    refine wpAny_genexprCode_hit hcode (cd.code hPs ht) hf ?_
    exact cont cv s2 H1 I2 GrM.refl st2 fun b hb => ⟨f2 b hb, sz b hb⟩
end R
namespace R
open PySem PySem.Spec PyProof.Rows L2 GenW
variable {k : Nat} {N : List Str} {tabs : List Addr} {ft : FT} {sc : Scope}
/-! ### all(..), any(..) of a generator expression -/
def FT.off (ft : FT) : FT := { ft with ge := false }
mutual
theorem evE_off : ∀ (x : R.X) (env : Env1), ngE x = true → evE ft.off x env = evE ft x env
  | .v i, env, h => rfl
  | .k d, env, h => rfl
  | .g n, env, h => rfl
  | .dnew, env, h => rfl
  | .neg a, env, h => by simp only [evE, evE_off a env (by simpa only [ngE] using h)]
  | .tup es, env, h => by simp only [evE, evL_off es env (by simpa only [ngE] using h)]
  | .lst es, env, h => by simp only [evE, evL_off es env (by simpa only [ngE] using h)]
  | .bin o a b, env, h => by
    simp only [ngE, Bool.and_eq_true] at h
    simp only [evE, evE_off a env h.1, evE_off b env h.2]
  | .cmp o a b, env, h => by
    simp only [ngE, Bool.and_eq_true] at h
    simp only [evE, evE_off a env h.1, evE_off b env h.2]
  | .ch o o' a b c, env, h => by
    simp only [ngE, Bool.and_eq_true] at h
    simp only [evE, evE_off a env h.1.1, evE_off b env h.1.2, evE_off c env h.2]
  | .and a b, env, h => by
    simp only [ngE, Bool.and_eq_true] at h
    simp only [evE, evE_off a env h.1, evE_off b env h.2]
  | .or a b, env, h => by
    simp only [ngE, Bool.and_eq_true] at h
    simp only [evE, evE_off a env h.1, evE_off b env h.2]
  | .not a, env, h => by simp only [evE, evE_off a env (by simpa only [ngE] using h)]
  | .ife c a b, env, h => by
    simp only [ngE, Bool.and_eq_true] at h
    simp only [evE, evE_off c env h.1.1, evE_off a env h.1.2, evE_off b env h.2]
  | .call f es, env, h => by
    have e : ft.off.fn = ft.fn := rfl
    simp only [evE, evL_off es env (by simpa only [ngE] using h), evBL_off es env (by simpa only [ngE] using h), e]
  | .bf f es, env, h => by simp only [evE, evBL_off es env (by simpa only [ngE] using h)]
  | .isi a ts b, env, h => by simp only [evE, evE_off a env (by simpa only [ngE] using h)]
  | .ix a b, env, h => by
    simp only [ngE, Bool.and_eq_true] at h
    simp only [evE, evE_off a env h.1, evE_off b env h.2]
  | .sl a lo hi, env, h => by
    simp only [ngE, Bool.and_eq_true] at h
    simp only [evE, evE_off a env h.1.1, evO_off lo env h.1.2, evO_off hi env h.2]
  | .lc i src c e, env, h => by
    simp only [ngE, Bool.and_eq_true] at h
    simp only [evE, evS_off src env h.1.1, fun e1 : Env1 => evC_off c e1 h.1.2, fun e1 : Env1 => evE_off e e1 h.2]
  | .ge _ _ _ _ _, env, h => by simp [ngE] at h
  | .vals a, env, h => by simp only [evE, evE_off a env (by simpa only [ngE] using h)]
  | .me m a es, env, h => by
    simp only [ngE, Bool.and_eq_true] at h
    simp only [evE, evE_off a env h.1, evBL_off es env h.2]
  termination_by structural x => x
theorem evL_off : ∀ (x : XL) (env : Env1), ngL x = true → evL ft.off x env = evL ft x env
  | .nil, env, h => rfl
  | .cons e es, env, h => by
    simp only [ngL, Bool.and_eq_true] at h
    simp only [evL, evE_off e env h.1, evL_off es env h.2]
  termination_by structural x => x
theorem evBL_off : ∀ (x : XL) (env : Env1), ngL x = true → evBL ft.off x env = evBL ft x env
  | .nil, env, h => rfl
  | .cons e es, env, h => by
    simp only [ngL, Bool.and_eq_true] at h
    simp only [evBL, evE_off e env h.1, evBL_off es env h.2]
  termination_by structural x => x
theorem evO_off : ∀ (x : XO) (env : Env1), ngO x = true → evO ft.off x env = evO ft x env
  | .no, env, h => rfl
  | .so e, env, h => by simp only [evO, evE_off e env (by simpa only [ngO] using h)]
  termination_by structural x => x
theorem evC_off : ∀ (x : XO) (env : Env1), ngO x = true → evC ft.off x env = evC ft x env
  | .no, env, h => rfl
  | .so e, env, h => by simp only [evC, evE_off e env (by simpa only [ngO] using h)]
  termination_by structural x => x
theorem evS_off : ∀ (x : XS) (env : Env1), ngS x = true → evS ft.off x env = evS ft x env
  | .r a, env, h => by simp only [evS, evE_off a env (by simpa only [ngS] using h)]
  | .l a, env, h => by simp only [evS, evE_off a env (by simpa only [ngS] using h)]
  termination_by structural x => x
end
theorem EV.hide {K : PySem.W.Frag} {H : Hp} {Fb : Bool → Addr → Prop} {σ : L2.St} {env : Env1} (h : EV K H Fb σ env) : ∀ ws : List Nat, EV K H Fb (wipe σ ws) (hideE env ws)
  | [] => h
  | w :: ws => by
    have h1 := h.hide ws
    unfold wipe hideE
    refine ⟨by rw [List.length_set, List.length_set]; exact h1.len, fun j f' d' ej => ?_, fun j n f' d' ej => ?_⟩
    · have z : j ≠ w := fun z => by
        subst z
        have lt : j < (hideE env ws).length := by
          have := (List.getElem?_eq_some_iff.mp ej).1
          rwa [List.length_set] at this
        rw [List.getElem?_set_self lt] at ej
        cases ej
      rw [List.getElem?_set_ne (Ne.symm z)] at ej
      obtain ⟨v, a, b⟩ := h1.sh j f' d' ej
      exact ⟨v, by rw [List.getElem?_set_ne (Ne.symm z)]; exact a, b⟩
    · have z : j ≠ w := fun z => by
        subst z
        have lt : j < (hideE env ws).length := by
          have := (List.getElem?_eq_some_iff.mp ej).1
          rwa [List.length_set] at this
        rw [List.getElem?_set_self lt] at ej
        cases ej
      rw [List.getElem?_set_ne (Ne.symm z)] at ej
      obtain ⟨v, a, b⟩ := h1.ow j n f' d' ej
      exact ⟨v, by rw [List.getElem?_set_ne (Ne.symm z)]; exact a, b⟩
theorem hideE_len {env : Env1} : ∀ ws : List Nat, (hideE env ws).length = env.length
  | [] => rfl
  | w :: ws => by unfold hideE; rw [List.length_set, hideE_len ws]
theorem hideE_at {env : Env1} {i : Nat} (hi : i < env.length) : ∀ {ws : List Nat}, i ∈ ws → (hideE env ws)[i]? = some Slot.no
  | [], h => by simp at h
  | w :: ws, h => by
    unfold hideE
    by_cases z : i = w
    · subst z
      rw [List.getElem?_set_self (by rw [hideE_len]; exact hi)]
    · rw [List.getElem?_set_ne (Ne.symm z)]
      exact hideE_at hi ((List.mem_cons.mp h).resolve_left z)
theorem geGo_inv {f : R.D → Rs} : ∀ {ds : List R.D} {rs : List (Kd × R.D)}, geGo f ds = some (.ok rs) → rs.length = ds.length ∧ ∀ (j : Nat) d, ds[j]? = some d → ∃ q, rs[j]? = some q ∧ f d = some (.ok q)
  | [], rs, h => by
    cases h
    exact ⟨rfl, fun j d e => by simp at e⟩
  | d :: ds, rs, h => by
    simp only [geGo] at h
    rcases bnd_inv h with ⟨c, _, z⟩ | ⟨q, e1, e2⟩
    · cases z
    · rcases bnd_inv e2 with ⟨c, _, z⟩ | ⟨qs, e3, e4⟩
      · cases z
      · cases e4
        obtain ⟨l, g⟩ := geGo_inv e3
        refine ⟨by simp [l], fun j d' e => ?_⟩
        cases j with
        | zero => simp at e; subst e; exact ⟨q, rfl, e1⟩
        | succ j => exact g j d' (by simpa using e)
theorem bools_inv : ∀ {ds : List R.D} {bs : List Bool}, bools ds = some bs → ds.length = bs.length ∧ ∀ (j : Nat) d b, ds[j]? = some d → bs[j]? = some b → d = .bool b
  | [], bs, h => by
    cases h
    exact ⟨rfl, fun j d b e => by simp at e⟩
  | d :: ds, bs, h => by
    cases d with
    | bool b0 =>
      simp only [bools] at h
      obtain ⟨bs', e1, rfl⟩ : ∃ bs', bools ds = some bs' ∧ b0 :: bs' = bs := by
        cases e : bools ds with
        | none => rw [e] at h; cases h
        | some bs' => rw [e] at h; exact ⟨bs', rfl, Option.some.inj h⟩
      obtain ⟨l, g⟩ := bools_inv e1
      refine ⟨by simp [l], fun j d' b' e e' => ?_⟩
      cases j with
      | zero => simp at e e'; subst e; subst e'; rfl
      | succ j => exact g j d' b' (by simpa using e) (by simpa using e')
    | _ => cases h
theorem geO_inv {q : Str} {e elt iter : Expr} {y : Str} {scope : Scope} (h : geO sc q e = some (elt, y, iter, scope)) : ∃ x p px gpos pos, e = .Call (.Name x p) [.GeneratorExp elt [⟨.Name y px, iter, [], 0⟩] scope gpos] [] pos ∧ gnB sc q x = true ∧ (q = "all" ∨ q = "any") := by
  unfold geO at h
  split at h
  · split at h
    · rename_i c
      cases h
      simp only [Bool.and_eq_true, Bool.or_eq_true, decide_eq_true_eq] at c
      exact ⟨_, _, _, _, _, rfl, c.1, c.2⟩
    · cases h
  · cases h
structure GxOk (N : List Str) (sc scope : Scope) (y : Str) (i : Nat) (ws : List Nat) : Prop where
  kind : scope.kind = .function
  co : scope.isCoroutine = false
  cell : ∀ z ∈ scope.names, z.2 ≠ .cell
  dot : scope.names.lookup (".0" : Str) = some NameKind.local
  loc : scope.names.lookup y = some .local
  hy : N[i]? = some y
  hi : i ∈ ws
  free : ∀ z ∈ scope.names, z.2 = .free → (sc.names.lookup z.1 = some .cell ∨ sc.names.lookup z.1 = some .free)
  hws : ∀ (j : Nat) z, j ∉ ws → N[j]? = some z → scope.names.lookup z = some .free
theorem locB_inv {scope : Scope} {y : Str} (h : locB scope y = true) : scope.names.lookup y = some .local := by
  unfold locB at h
  split at h
  · assumption
  · cases h
theorem gxB_inv {scope : Scope} {y : Str} {i : Nat} {ws : List Nat} (h : gxB N sc scope y i ws = true) : GxOk N sc scope y i ws := by
  unfold gxB at h
  simp only [Bool.and_eq_true, Bool.not_eq_true', decide_eq_true_eq, List.all_eq_true, List.contains_iff_mem] at h
  obtain ⟨⟨⟨⟨⟨⟨⟨⟨h1, h2⟩, h3⟩, h4⟩, h5⟩, h6⟩, h7⟩, h8⟩, h9⟩ := h
  refine ⟨?_, h2, fun z hz e => ?_, locB_inv h4, locB_inv h5, h6, h7, fun z hz e => ?_, fun j z hj e => ?_⟩
  · split at h1
    · assumption
    · cases h1
  · have := h3 z hz
    rw [e] at this
    cases this
  · have q := h8 z hz
    rw [e] at q
    have q' : clB sc z.1 = true := q
    unfold clB at q'
    split at q'
    · right; assumption
    · left; assumption
    · cases q'
  · have q := h9 j (List.mem_range.mpr (List.getElem?_eq_some_iff.mp e).1)
    rw [Bool.or_eq_true] at q
    rcases q with q | q
    · exact absurd (List.contains_iff_mem.mp q) hj
    · rw [e] at q
      have q' : freeB scope z = true := q
      unfold freeB at q'
      split at q'
      · assumption
      · cases q'
theorem noErr_inv' {α : Type} {r : Ex α} {q : Except Str α} (h : noErr r = some q) : ∃ a, r = some (.ok a) ∧ q = .ok a := by
  cases r with
  | none => cases h
  | some r => cases r with
    | error c => cases h
    | ok a => cases h; exact ⟨a, rfl, rfl⟩
theorem GC.gen {X : Cx} {W : WX} (gc : GC ft k N tabs W X sc) {scope : Scope} (Xg : Cx) (h1 : Xg.mg = X.mg) (h2 : Xg.prog = X.prog) (h3 : Xg.w = X.w) (h4 : Xg.K = X.K) (h5 : Xg.base = X.base) (h6 : Xg.N = X.N) (h7 : Xg.calm = true) (h8 : Xg.env.scope = scope) (h9 : Room k Xg.A) :
    GC ft.off k N tabs (fun _ _ _ _ => False) Xg scope where
  vis := fun x h => by
    rw [h8]
    unfold visB at h
    cases e : scope.names.lookup x with
    | none => rw [e] at h; cases h
    | some kd =>
      rw [e] at h
      cases kd with
      | «local» => exact .inl e
      | cell => exact .inr (.inl e)
      | free => exact .inr (.inr e)
      | _ => cases h
  glb := fun x h => by
    show Xg.env.scope.names.lookup x = _
    rw [h8]
    unfold glbB at h
    cases e : scope.names.lookup x with
    | none => rw [e] at h; cases h
    | some kd =>
      rw [e] at h
      cases kd with
      | globalImplicit => rfl
      | _ => cases h
  loc := fun x h => by rw [h8]; exact locB_inv h
  fre := fun x h => by rw [h8]; exact h
  hN := h6.trans gc.hN
  nd := gc.nd
  calm := h7
  room := h9
  bi := fun x h => by rw [h1]; exact gc.bi x h
  fn := fun f s h => by
    rw [h1, h2, h3, h4, h5]
    exact gc.fn f s h
  gl := fun n d h => by
    rw [h1, h4]
    exact gc.gl n d h
  tk := takes0
  tb := fun h => by cases h
theorem boot_all : bootBuiltins "all" = some (.builtin "all") := by decide +kernel
theorem es_ge {q : Str} {i : Nat} {ws : List Nat} {src : XS} {x : R.X} {nm y : Str} {p px gpos pos : Pos} {elt iter : Expr} {scope : Scope} (hq : q = "all" ∨ q = "any") (hg : gnB sc q nm = true) (hl : noLst iter = true) (ok : GxOk N sc scope y i ws) (hn : ngE x = true)
    (hsrc : SS ft k N tabs sc src iter) (hel : ES ft.off k N tabs scope x elt) : ES ft k N tabs sc (.ge q i ws src x) (.Call (.Name nm p) [.GeneratorExp elt [⟨.Name y px, iter, [], 0⟩] scope gpos] [] pos) := by
  intro X W Fb σ H env r Q A ev qk er
  obtain ⟨rfl, hgl, hd, _⟩ := gn_inv hg
  have ev0 : (if ft.ge = true then bnd (evS ft src env) fun s => if i < env.length then
      bnd (noErr (geGo (fun d => evE ft x ((hideE env ws).set i (.sh s.1 d))) s.2)) fun r => lift (geE q (r.map (·.2))) else none else none) = some r := ev
  split at ev0
  · rename_i hge
    obtain ⟨hroom, c, P, hcode, TB, hP⟩ := A.gc.tb hge
    intro pins s I
    have he : starEach [.GeneratorExp elt [⟨.Name y px, iter, [], 0⟩] scope gpos] X.env = (false, eval (.GeneratorExp elt [⟨.Name y px, iter, [], 0⟩] scope gpos) X.env) :: starEach [] X.env := rfl
    have hfree : ∀ z ∈ scope.names, z.2 = .free → (X.env.scope.names.lookup z.1 = some .cell ∨ X.env.scope.names.lookup z.1 = some .free) := fun z hz e => A.gc.fre _ (ok.free z hz e)
    have S : GxR.GenS X.env scope y := ⟨ok.kind, ok.co, ok.cell, ok.dot, ok.loc, fun z hz e => I.ok.has _ (by
      rcases hfree z hz e with h | h
      · exact .inl h
      · exact .inr h)⟩
    have hfold : ∀ v, genFold iter X.env v = pure v := fun v => by cases iter <;> first | rfl | cases hl
    have main : ∀ {Qc : Value → Shared → Prop}, (∀ (f : Bool) (ds : List R.D) (rs : List (Kd × R.D)) (bs : List Bool) (kd : Kd) (d : R.D), rs.length = ds.length → (∀ (j : Nat) d, ds[j]? = some d → ∃ q, rs[j]? = some q ∧ evE ft x ((hideE env ws).set i (.sh f d)) = some (.ok q)) → bools (rs.map (·.2)) = some bs → geE q (rs.map (·.2)) = some (kd, d) → r = .ok (kd, d) →
        ∀ u s5, GxMade X pins σ H Fb y px rs u s5 → Qc u s5) → wpAny (model X.prog X.w) X.A (eval (.GeneratorExp elt [⟨.Name y px, iter, [], 0⟩] scope gpos) X.env) Qc X.xe s := by
      intro Qc hQc
      rcases bnd_inv ev0 with ⟨c0, e1, rfl⟩ | ⟨⟨f, ds⟩, e1, e2⟩
      · exact gx_make (ft' := ft.off) (ws := ws) (hideE env ws) A hroom TB hcode hP S ok.hws hfree hfold hsrc hel ok.hy (hideE_at (by
          have := I.len
          rw [A.ev.len, this, A.gc.hN]
          exact (List.getElem?_eq_some_iff.mp ok.hy).1) ok.hi) (fun h => h.hide ws) (fun Xg => A.gc.gen Xg) e1 I (fun f ds z => by cases z) (fun c' z => by cases z; exact er _ rfl)
      · simp only at e2
        split at e2
        · rename_i hi
          rcases bnd_inv e2 with ⟨c0, e3, rfl⟩ | ⟨rs, e3, e4⟩
          · obtain ⟨_, _, z⟩ := noErr_inv' e3
            cases z
          · obtain ⟨_, e5, z⟩ := noErr_inv' e3
            cases z
            obtain ⟨⟨kd, d⟩, e6, rfl⟩ := lift_inv e4
            obtain ⟨l, gi⟩ := geGo_inv e5
            refine gx_make (ft' := ft.off) (ws := ws) (hideE env ws) A hroom TB hcode hP S ok.hws hfree hfold hsrc hel ok.hy (hideE_at hi ok.hi) (fun h => h.hide ws) (fun Xg => A.gc.gen Xg) e1 I (fun f' ds' z => ?_) (fun c' z => by cases z)
            cases z
            refine ⟨rs, l, fun j d' e => ?_, fun u s5 m => ?_⟩
            · obtain ⟨q', e7, e8⟩ := gi j d' e
              exact ⟨q', e7, by rw [evE_off x _ hn]; exact e8⟩
            · have hb : ∃ bs, bools (rs.map (·.2)) = some bs := by
                cases e : bools (rs.map (·.2)) with
                | none =>
                  unfold geE at e6
                  rw [e] at e6
                  rcases hq with rfl | rfl
                  · cases e6
                  · cases e6
                | some bs => exact ⟨bs, rfl⟩
              obtain ⟨bs, hb⟩ := hb
              exact hQc f ds rs bs kd d l gi hb e6 rfl u s5 m
        · cases e2
    rcases hq with rfl | rfl
    · refine wpAny_Call_Name_kw (ld_blt I (A.gc.glb _ hgl) (A.gc.bi _ (by decide +kernel)) boot_all ?_ (by decide) (by decide))
      refine PyProof.Rows.callWith_builtin1 ?_ he (by rfl)
      rw [he]
      show wpAny _ _ (spliced ((false, eval (.GeneratorExp elt [⟨.Name y px, iter, [], 0⟩] scope gpos) X.env) :: backTo pos (starEach [] X.env))) _ _ s
      refine Calls.spliced_cons (main fun f ds rs bs kd d _ _ hb e6 hr u s5 made => ?_)
      refine Calls.spliced_nil ?_
      obtain ⟨Xg, pg, fp, it, tn, J, env', H2, a, g, go, rfl, hp, hw, hK, T, G, hgen, g2, st, back⟩ := made
      refine call_function_tree F.kind_all F.plain_all F.entry_all (F.args_all1 _) ?_
      unfold Builtin.«all»
      refine wpAny_bind (m := oneArg "all" _) (wpAny_pure ?_)
      refine wpAny_bind (wpAny_pyIter_gen hgen ?_)
      obtain ⟨bl, bat⟩ := bools_inv hb
      refine wpAny_pure ⟨plainId_quiet F.plain_all_loop _, ?_⟩
      have hm : model Xg.prog Xg.w = model X.prog X.w := by rw [hp, hw]
      rw [← hm]
      refine gx_all (A := X.A) T G hroom.hd (by have := hroom.dp; omega) bs (by rw [← bl, List.length_map]) (fun j q b e1 e2 => bat j q.2 b (by rw [List.getElem?_map, e1]; rfl) e2) rs.length 0 s5 (by omega) st fun σ' H' s' I' g' => ?_
      have e7 : (kd, d) = R.sc (.bool (bs.all id)) := by
        unfold geE at e6
        rw [hb] at e6
        exact (Option.some.inj e6).symm
      cases e7
      exact ⟨.bl _, H', back σ' H' s' I', rfl, qk _ hr _ H' (g2.trans g') vr_bool⟩
    · refine wpAny_Call_Name_kw (ld_blt I (A.gc.glb _ hgl) (A.gc.bi _ (by decide +kernel)) (by decide +kernel : bootBuiltins "any" = some (.builtin "any")) ?_ (by decide) (by decide))
      refine PyProof.Rows.callWith_builtin1 ?_ he (by rfl)
      rw [he]
      show wpAny _ _ (spliced ((false, eval (.GeneratorExp elt [⟨.Name y px, iter, [], 0⟩] scope gpos) X.env) :: backTo pos (starEach [] X.env))) _ _ s
      refine Calls.spliced_cons (main fun f ds rs bs kd d _ _ hb e6 hr u s5 made => ?_)
      refine Calls.spliced_nil ?_
      obtain ⟨Xg, pg, fp, it, tn, J, env', H2, a, g, go, rfl, hp, hw, hK, T, G, hgen, g2, st, back⟩ := made
      refine call_function_tree F.kind_any F.plain_any F.entry_any (F.args_any1 _) ?_
      unfold Builtin.«any»
      refine wpAny_bind (m := oneArg "any" _) (wpAny_pure ?_)
      refine wpAny_bind (wpAny_pyIter_gen hgen ?_)
      obtain ⟨bl, bat⟩ := bools_inv hb
      refine wpAny_pure ⟨plainId_quiet F.plain_any_loop _, ?_⟩
      have hm : model Xg.prog Xg.w = model X.prog X.w := by rw [hp, hw]
      rw [← hm]
      refine gx_any (A := X.A) T G hroom.hd (by have := hroom.dp; omega) bs (by rw [← bl, List.length_map]) (fun j q b e1 e2 => bat j q.2 b (by rw [List.getElem?_map, e1]; rfl) e2) rs.length 0 s5 (by omega) st fun σ' H' s' I' g' => ?_
      have e7 : (kd, d) = R.sc (.bool (bs.any id)) := by
        unfold geE at e6
        rw [if_neg (by decide), if_pos rfl, hb] at e6
        exact (Option.some.inj e6).symm
      cases e7
      exact ⟨.bl _, H', back σ' H' s' I', rfl, qk _ hr _ H' (g2.trans g') vr_bool⟩
  · cases ev0
end R
namespace R
open PySem PySem.Spec PyProof.Rows L2
variable {ft : FT} {k : Nat} {N : List Str} {tabs : List Addr}
theorem opEq_inv {a b : Operator} (h : opEq a b = true) : a = b := by cases a <;> cases b <;> first | rfl | cases h
theorem cpEq_inv {a b : CmpOp} (h : cpEq a b = true) : a = b := by cases a <;> cases b <;> first | rfl | cases h
theorem both {sc : Scope} {x : X} {e : Expr} (h : mtE N sc x e = true) (he : ES ft k N tabs sc x e) (hp : plainT e = true := by rfl) : ES ft k N tabs sc x e ∧ TS' ft k N tabs sc x e := ⟨he, .of (.of he h) hp⟩
mutual
theorem etE {sc : Scope} : ∀ (ft : FT) (x : X) (e : Expr), mtE N sc x e = true → ES ft k N tabs sc x e ∧ TS' ft k N tabs sc x e
  | ft, .v i, e, h => by cases e <;> first | exact both h (es_v h) | (simp [mtE] at h; done)
  | ft, .k d, e, h => by cases e <;> first | (exact both h (es_k (by simpa only [mtE] using h))) | (simp [mtE] at h; done)
  | ft, .g n, e, h => by cases e <;> first | (exact both h (es_g (by simpa only [mtE] using h))) | (simp [mtE] at h; done)
  | ft, .neg a, e, h => by
    cases e with
    | UnaryOp o y p => cases o <;> first | exact both h (es_neg (etE ft a y (by simpa only [mtE] using h)).1) | (simp [mtE] at h; done)
    | _ => simp [mtE] at h
  | ft, .tup es, e, h => by
    cases e with
    | Tuple l j p => exact both h (es_tup (lsE ft es l (by simpa only [mtE] using h)))
    | _ => simp [mtE] at h
  | ft, .lst es, e, h => by
    cases e with
    | List l p => exact both h (es_lst (lsE ft es l (by simpa only [mtE] using h)))
    | _ => simp [mtE] at h
  | ft, .dnew, e, h => by
    cases e with
    | Dict a b p =>
      cases a with
      | nil => cases b with
        | nil => exact both h es_dnew
        | cons _ _ => simp [mtE] at h
      | cons _ _ => simp [mtE] at h
    | _ => simp [mtE] at h
  | ft, .bin o a b, e, h => by
    cases e with
    | BinOp ea oe eb p =>
      have h0 := h
      simp only [mtE, Bool.and_eq_true] at h
      cases opEq_inv h.1.1
      exact both h0 (es_bin (.of ((etE ft a ea h.1.2).1) h.1.2) (.of ((etE ft b eb h.2).1) h.2))
    | _ => simp [mtE] at h
  | ft, .cmp o a b, e, h => by
    cases e with
    | Compare ea os es p =>
      rcases os with _ | ⟨oe, _ | ⟨_, _⟩⟩ <;> rcases es with _ | ⟨eb, _ | ⟨_, _⟩⟩ <;> first | (simp [mtE] at h; done) | skip
      have h0 := h
      simp only [mtE, Bool.and_eq_true, Bool.not_eq_true'] at h
      cases cpEq_inv h.1.1.1
      exact ⟨es_cmp h.2 (.of ((etE ft a ea h.1.1.2).1) h.1.1.2) (.of ((etE ft b eb h.1.2).1) h.1.2), ts_cmp h.2 (.of ((etE ft a ea h.1.1.2).1) h.1.1.2) (.of ((etE ft b eb h.1.2).1) h.1.2)⟩
    | _ => simp [mtE] at h
  | ft, .ch o o' a b c, e, h => by
    cases e with
    | Compare ea os es p =>
      rcases os with _ | ⟨oe, _ | ⟨oe', _ | ⟨_, _⟩⟩⟩ <;> rcases es with _ | ⟨eb, _ | ⟨ec, _ | ⟨_, _⟩⟩⟩ <;> first | (simp [mtE] at h; done) | skip
      have h0 := h
      simp only [mtE, Bool.and_eq_true, Bool.not_eq_true'] at h
      obtain ⟨⟨⟨⟨⟨⟨h1, h2⟩, h3⟩, h4⟩, h5⟩, h6⟩, h7⟩ := h
      cases cpEq_inv h1
      cases cpEq_inv h2
      exact ⟨es_ch h7 (.of ((etE ft a ea h3).1) h3) (.of ((etE ft b eb h4).1) h4) (.of ((etE ft c ec h5).1) h5), ts_ch h7 (.of ((etE ft a ea h3).1) h3) (.of ((etE ft b eb h4).1) h4) (.of ((etE ft c ec h5).1) h5)⟩
    | _ => simp [mtE] at h
  | ft, .and a b, e, h => by
    cases e with
    | BoolOp o es p =>
      rcases es with _ | ⟨ea, _ | ⟨eb, _ | ⟨ec, rest⟩⟩⟩ <;> cases o <;> first | (simp [mtE] at h; done) | skip
      · simp only [mtE, Bool.and_eq_true] at h
        exact ⟨es_and ((etE ft a ea h.1).1) ((etE ft b eb h.2).1), ts_and ((etE ft a ea h.1).2) ((etE ft b eb h.2).2)⟩
      · simp only [mtE, Bool.and_eq_true] at h
        exact ⟨es_andN ((etE ft a ea h.1).1) ((etE ft b (.BoolOp .And (eb :: ec :: rest) p) h.2).1), ts_andN ((etE ft a ea h.1).2) ((etE ft b (.BoolOp .And (eb :: ec :: rest) p) h.2).2)⟩
    | _ => simp [mtE] at h
  | ft, .or a b, e, h => by
    cases e with
    | BoolOp o es p =>
      rcases es with _ | ⟨ea, _ | ⟨eb, _ | ⟨ec, rest⟩⟩⟩ <;> cases o <;> first | (simp [mtE] at h; done) | skip
      · simp only [mtE, Bool.and_eq_true] at h
        exact ⟨es_or ((etE ft a ea h.1).1) ((etE ft b eb h.2).1), ts_or ((etE ft a ea h.1).2) ((etE ft b eb h.2).2)⟩
      · simp only [mtE, Bool.and_eq_true] at h
        exact ⟨es_orN ((etE ft a ea h.1).1) ((etE ft b (.BoolOp .Or (eb :: ec :: rest) p) h.2).1), ts_orN ((etE ft a ea h.1).2) ((etE ft b (.BoolOp .Or (eb :: ec :: rest) p) h.2).2)⟩
    | _ => simp [mtE] at h
  | ft, .not a, e, h => by
    cases e with
    | UnaryOp o y p =>
      cases o <;> first | (simp [mtE] at h; done) | skip
      have h' : mtE N sc a y = true := by simpa only [mtE] using h
      exact ⟨es_not (.of ((etE ft a y h').1) h'), ts_not (etE ft a y h').2⟩
    | _ => simp [mtE] at h
  | ft, .ife c a b, e, h => by
    cases e with
    | IfExp ec ea eb p =>
      have h0 := h
      simp only [mtE, Bool.and_eq_true] at h
      exact ⟨es_ife ((etE ft c ec h.1.1).2) ((etE ft a ea h.1.2).1) ((etE ft b eb h.2).1), ts_ife (etE ft c ec h.1.1).2 (etE ft a ea h.1.2).2 (etE ft b eb h.2).2⟩
    | _ => simp [mtE] at h
  | ft, .call f es, e, h => by
    cases e with
    | Call fn l kw p =>
      cases fn <;> cases kw <;> first | (simp [mtE] at h; done) | skip
      have h0 := h
      simp only [mtE, Bool.and_eq_true] at h
      exact both h0 (es_call h.1 h.2 (lsE ft es l h.2) (lbsE ft es l h.2))
    | _ => simp [mtE] at h
  | ft, .bf f es, e, h => by
    cases e with
    | Call fn l kw p =>
      cases fn <;> cases kw <;> first | (simp [mtE] at h; done) | skip
      have h0 := h
      simp only [mtE, Bool.and_eq_true, decide_eq_true_eq] at h
      exact both h0 (es_bf h.1.1 h.1.2 h.2 (lbsE ft es l h.2))
    | _ => simp [mtE] at h
  | ft, .isi a ts al, e, h => by
    cases e with
    | Call fn l kw p =>
      rcases l with _ | ⟨e1, _ | ⟨e2, _ | ⟨_, _⟩⟩⟩ <;> cases fn <;> cases kw <;> first | (cases al <;> simp [mtE] at h; done) | skip
      cases al with
      | true =>
        cases e2 <;> first | (simp [mtE] at h; done) | skip
        rename_i t p2
        have h0 := h
        simp only [mtE, Bool.and_eq_true] at h
        obtain ⟨⟨⟨h1, h2⟩, h3⟩, h4⟩ := h
        refine both h0 (es_isi1 h1 h3 ?_ (.of ((etE ft a e1 h2).1) h2))
        rcases ts with _ | ⟨t1, _ | ⟨_, _⟩⟩ <;> first | (simp [namesB] at h4; done) | skip
        simpa only [namesB] using h4
      | false =>
        cases e2 <;> first | (simp [mtE] at h; done) | skip
        have h0 := h
        simp only [mtE, Bool.and_eq_true, decide_eq_true_eq] at h
        obtain ⟨⟨⟨⟨h1, h2⟩, h3⟩, h4⟩, h5⟩ := h
        exact both h0 (es_isiT h1 h3 h4 h5 (.of ((etE ft a e1 h2).1) h2))
    | _ => cases al <;> simp [mtE] at h
  | ft, .ix a b, e, h => by
    cases e with
    | Subscript ea eb p =>
      have h0 := h
      simp only [mtE, Bool.and_eq_true] at h
      exact both h0 (es_ix h.2 (.of ((etE ft a ea h.1.1).1) h.1.1) (.of ((etE ft b eb h.1.2).1) h.1.2))
    | _ => simp [mtE] at h
  | ft, .sl a lo hi, e, h => by
    cases e with
    | Subscript ea eb p =>
      cases eb with
      | Slice el eh st p2 =>
        cases st with
        | none =>
          have h0 := h
          simp only [mtE, Bool.and_eq_true] at h
          exact both h0 (es_sl (.of ((etE ft a ea h.1.1).1) h.1.1) (osE ft lo el h.1.2) (osE ft hi eh h.2))
        | some _ => simp [mtE] at h
      | _ => simp [mtE] at h
    | _ => simp [mtE] at h
  | ft, .lc i src c x, e, h => by
    cases e with
    | ListComp elt gs scope p =>
      rcases gs with _ | ⟨⟨tg, iter, ifs, asy⟩, _ | ⟨_, _⟩⟩ <;> first | (simp [mtE] at h; done) | skip
      cases tg <;> first | (simp [mtE] at h; done) | skip
      rename_i y py
      have z : asy = 0 := by
        by_cases z : asy = 0
        · exact z
        · exfalso
          simp [mtE, z] at h
      subst z
      have h0 := h
      simp only [mtE, Bool.and_eq_true] at h
      obtain ⟨⟨⟨⟨⟨⟨h1, h2⟩, h3⟩, h4⟩, h5⟩, h6⟩, h7⟩ := h
      exact both h0 (es_lc (ssE ft src iter h1) h2 h3 h4 (csE ft c ifs h6) ((etE ft x elt h7).1))
    | _ => simp [mtE] at h
  | ft, .ge q i ws src x, e, h => by
    have h0 : ((geO sc q e).any fun t => mtS N sc src t.2.2.1 && noLst t.2.2.1 && gxB N sc t.2.2.2 t.2.1 i ws && mtE N t.2.2.2 x t.1 && ngE x) = true := by
      cases e <;> exact h
    cases z : geO sc q e with
    | none => rw [z] at h0; cases h0
    | some t =>
      obtain ⟨elt, y, iter, scope⟩ := t
      rw [z] at h0
      have h1 : (mtS N sc src iter && noLst iter && gxB N sc scope y i ws && mtE N scope x elt && ngE x) = true := h0
      simp only [Bool.and_eq_true] at h1
      obtain ⟨⟨⟨⟨h2, h3⟩, h4⟩, h5⟩, h6⟩ := h1
      obtain ⟨nm, p, px, gpos, pos, rfl, g1, g2⟩ := geO_inv z
      exact both h (es_ge g2 g1 h3 (gxB_inv h4) h6 (ssE ft src iter h2) (etE ft.off x elt h5).1)
  | ft, .vals a, e, h => by
    have h0 : ((valsO sc e).any fun o => mtE N sc a o) = true := by
      cases e <;> exact h
    cases z : valsO sc e with
    | none => rw [z] at h0; cases h0
    | some o =>
      rw [z] at h0
      have h0' : mtE N sc a o = true := h0
      obtain ⟨x, p, apos, cpos, pos, rfl, g1, g2, g3⟩ := valsO_inv z
      exact both h (es_vals g1 g2 g3 (.of (etE ft a o h0').1 h0'))
  | ft, .me _ _ _, e, h => by cases e <;> simp [mtE] at h
  termination_by structural _ x => x
theorem lsE {sc : Scope} : ∀ (ft : FT) (x : XL) (e : List Expr), mtL N sc x e = true → LS ft k N tabs sc x e
  | ft, .nil, e, h => by
    cases e with
    | nil => exact ls_nil
    | cons _ _ => simp [mtL] at h
  | ft, .cons x es, e, h => by
    cases e with
    | nil => simp [mtL] at h
    | cons y l =>
      simp only [mtL, Bool.and_eq_true] at h
      exact ls_cons ((etE ft x y h.1.1).1) h.1.2 (lsE ft es l h.2)
  termination_by structural _ x => x
theorem lbsE {sc : Scope} : ∀ (ft : FT) (x : XL) (e : List Expr), mtL N sc x e = true → LBS ft k N tabs sc x e
  | ft, .nil, e, h => by
    cases e with
    | nil => exact lbs_nil
    | cons _ _ => simp [mtL] at h
  | ft, .cons x es, e, h => by
    cases e with
    | nil => simp [mtL] at h
    | cons y l =>
      simp only [mtL, Bool.and_eq_true] at h
      exact lbs_cons (.of ((etE ft x y h.1.1).1) h.1.1) h.1.2 (lbsE ft es l h.2)
  termination_by structural _ x => x
theorem osE {sc : Scope} : ∀ (ft : FT) (x : XO) (e : Option Expr), mtO N sc x e = true → (x = .no ∧ e = none) ∨ ∃ y ey, x = .so y ∧ e = some ey ∧ ES ft k N tabs sc y ey
  | ft, .no, e, h => by
    cases e with
    | none => exact .inl ⟨rfl, rfl⟩
    | some _ => simp [mtO] at h
  | ft, .so y, e, h => by
    cases e with
    | none => simp [mtO] at h
    | some ey => exact .inr ⟨y, ey, rfl, rfl, (etE ft y ey (by simpa only [mtO] using h)).1⟩
  termination_by structural _ x => x
theorem csE {sc : Scope} : ∀ (ft : FT) (x : XO) (e : List Expr), mtC N sc x e = true → CS ft k N tabs sc x e
  | ft, .no, e, h => by
    cases e with
    | nil => exact .inl ⟨rfl, rfl⟩
    | cons _ _ => simp [mtC] at h
  | ft, .so y, e, h => by
    rcases e with _ | ⟨ey, _ | ⟨_, _⟩⟩ <;> first | (simp [mtC] at h; done) | skip
    exact .inr ⟨y, ey, rfl, rfl, (etE ft y ey (by simpa only [mtC] using h)).2⟩
  termination_by structural _ x => x
theorem ssE {sc : Scope} : ∀ (ft : FT) (x : XS) (e : Expr), mtS N sc x e = true → SS ft k N tabs sc x e
  | ft, .r a, e, h => by
    cases e with
    | Call fn l kw p =>
      rcases l with _ | ⟨e1, _ | ⟨_, _⟩⟩ <;> cases fn <;> cases kw <;> first | (simp [mtS] at h; done) | skip
      simp only [mtS, Bool.and_eq_true] at h
      exact ss_r h.1.1 h.2 ((etE ft a e1 h.1.2).1)
    | _ => simp [mtS] at h
  | ft, .l a, e, h => by
    have h' : mtE N sc a e = true := by simpa only [mtS] using h
    exact ss_l (.of ((etE ft a e h').1) h')
  termination_by structural _ x => x
end
end R
namespace R
open PySem PySem.Spec PyProof.Rows L2
/-! ### statements -/
inductive Ds where
  | drop
  | set (i : Nat)
  | unp (is : List Nat)
  | ret
/-- the end of a law -/
inductive T where
  | set (j : Nat) (e : X) (t : T)
  | tst (c r : X) (t : T)
  | wrk (dp : Bool) (kx e : X)
  | wap (e : X)
/-- a pattern's part, a pattern -/
inductive P1 where
  | lit (ws : List Str)
  | cap (i : Nat)
  | wild
inductive Pt where
  | tup (ps : List P1)
  | one (ws : List Str)
mutual
inductive S where
  | pass
  | brk
  | cont
  | set (i : Nat) (e : X)
  | unp (is : List Nat) (e : X)
  | sti (i : Nat) (ix e : X)
  | app (i : Nat) (e : X)
  | rev (i : Nat)
  | pop (i : Nat)
  | xt (i : Nat) (e : X)
  | wh (c : X) (b : SL)
  | aug (i : Nat) (c : Int)
  | ife (c : X) (a b : SL)
  | for1 (i : Nat) (src : XS) (b : SL)
  | forT (is : List Nat) (src : XS) (b : SL)
  | ret (e : X)
  | retn
  | mc (d : Ds) (f : Str) (es : XL)
  | ex (e : X)
  | frz (i : Nat)
  | tl (i : Nat) (e : X) (t : T)
  | mat (i : Nat) (cs : CL)
  | unk
inductive SL where
  | nil
  | cons (s : S) (l : SL)
inductive CL where
  | nil
  | cons (p : Pt) (g : XO) (b : SL) (cs : CL)
end
/-- where a statement leads -/
inductive Oc where
  | nx (env : Env1)
  | bk (env : Env1)
  | ct (env : Env1)
  | rt (env : Env1) (k : Kd) (d : D)
  | er (c : Str)
def mutOld : Option Slot → Bool
  | some (.ow false _ _) => true
  | _ => false
def isOw : Option Slot → Bool
  | some (.ow _ _ _) => true
  | _ => false
def isOwL : Option Slot → Bool
  | some (.ow _ _ (.list _)) => true
  | _ => false
def slotOf (k : Kd) (d : D) : Slot := if k.own = true then .ow true k.fr d else .sh k.fr d
def isLD : D → Bool
  | .list _ => true
  | .dict _ => true
  | _ => false
def putS (env : Env1) (i : Nat) (k : Kd) (d : D) : Option Env1 :=
  if i < env.length ∧ mutOld env[i]? = false then some (env.set i (slotOf k d)) else none
def putAll : Env1 → List Nat → Bool → List D → Option Env1
  | env, [], _, [] => some env
  | env, i :: is, f, d :: ds => (putS env i ⟨false, f⟩ d).bind fun e => putAll e is f ds
  | _, _, _, _ => none
def seqO (r : Option Oc) (g : Env1 → Option Oc) : Option Oc := match r with
  | some (.nx env) => g env
  | o => o
def exO {α : Type} (r : Ex α) (g : α → Option Oc) : Option Oc := match r with
  | none => none
  | some (.error c) => some (.er c)
  | some (.ok a) => g a
def loopS (bind : Env1 → D → Option Env1) (body : Env1 → Option Oc) : List D → Env1 → Option Oc
  | [], env => some (.nx env)
  | d :: ds, env => match bind env d with
    | none => none
    | some e1 => match body e1 with
      | some (.nx e2) => loopS bind body ds e2
      | some (.ct e2) => loopS bind body ds e2
      | some (.bk e2) => some (.nx e2)
      | o => o
/-- a source walked by a statement -/
def evSv (ft : FT) : XS → Env1 → Ex (Bool × List D)
  | .r a, env => bnd (evE ft a env) fun r => bnd (lift (rangeE r.2)) fun l => ok (true, l)
  | .l e, env => bnd (evE ft e env) fun q => bnd (lift (itemsE q.2)) fun l => ok (q.1.fr, l)
/-- the arguments of a call that changes some -/
def evMA (ft : FT) (mu : List Nat) : Nat → XL → Env1 → Ex (List D)
  | _, .nil, _ => ok []
  | p, .cons e es, env =>
    if p ∈ mu then match e with
      | .v j => match env[j]? with
        | some (.ow _ _ d) => bnd (evMA ft mu (p + 1) es env) fun q => ok (d :: q)
        | _ => none
      | _ => none
    else bnd (evE ft e env) fun r => bnd (evMA ft mu (p + 1) es env) fun q => ok (r.2 :: q)
/-- the places and the slots that a call changes -/
def muPr (mu : List Nat) : Nat → XL → List (Nat × Nat)
  | _, .nil => []
  | p, .cons e es => if p ∈ mu then (match e with | .v j => [(p, j)] | _ => []) ++ muPr mu (p + 1) es else muPr mu (p + 1) es
def mcEnd (dd : Ds) (kd : Kd) (d : D) (e1 : Env1) : Option Oc := match dd with
  | .drop => some (.nx e1)
  | .set i => if kd.own = true then none else (putS e1 i ⟨false, kd.fr⟩ d).map .nx
  | .unp is => match d with
    | .tuple ds => if ds.length = is.length then (putAll e1 is kd.fr ds).map .nx else none
    | _ => none
  | .ret => some (.rt e1 kd d)
def putMu : Env1 → List Nat → List D → Option Env1
  | env, [], [] => some env
  | env, j :: js, m :: ms => match env[j]? with
    | some (.ow n _ _) => if isLD m = true then putMu (env.set j (.ow n (noMutI m) m)) js ms else none
    | _ => none
  | _, _, _ => none
def stiE (env : Env1) (i : Nat) (ix : D) (k : Kd) (d : D) : Option Env1 := match env[i]? with
  | some (.ow n f (.list xs)) => match ix with
    | .int z => (ixN xs.length z).map fun j => env.set i (.ow n (f && k.fr) (.list (xs.set j d)))
    | _ => none
  | some (.ow n f (.dict es)) => (keyOf ix).bind fun ky => if lenOk es.length then some (env.set i (.ow n (f && k.fr) (.dict (dputE es ky d)))) else none
  | _ => none
def appE (env : Env1) (i : Nat) (k : Kd) (d : D) : Option Env1 := match env[i]? with
  | some (.ow n f (.list xs)) => if lenOk xs.length then some (env.set i (.ow n (f && k.fr) (.list (xs ++ [d])))) else none
  | _ => none
/-- x.extend(a tuple) -/
def extE (env : Env1) (i : Nat) (k : Kd) (d : D) : Option Env1 := match env[i]?, d with
  | some (.ow n f (.list xs)), .tuple ds => if lenOk (xs.length + ds.length) then some (env.set i (.ow n (f && k.fr) (.list (xs ++ ds)))) else none
  | _, _ => none
/-- a while, n turns at most -/
def whS (c : Env1 → Ex Bool) (body : Env1 → Option Oc) : Nat → Env1 → Option Oc
  | 0, _ => none
  | n + 1, env => exO (c env) fun t => if t = true then (match body env with
    | some (.nx e) => whS c body n e
    | some (.ct e) => whS c body n e
    | some (.bk e) => some (.nx e)
    | o => o) else some (.nx env)
/-- x += c, numbers -/
def augE (env : Env1) (i : Nat) (c : Int) : Option Env1 := match env[i]? with
  | some (.sh _ (.int a)) => putS env i ⟨false, true⟩ (.int (a + c))
  | _ => none
def turns : Nat := 1000000
def revE (env : Env1) (i : Nat) : Option Env1 := match env[i]? with
  | some (.ow n f (.list xs)) => some (env.set i (.ow n f (.list xs.reverse)))
  | _ => none
def popE (env : Env1) (i : Nat) : Option Env1 := match env[i]? with
  | some (.ow n f (.list xs)) => if xs = [] then none else some (env.set i (.ow n f (.list xs.dropLast)))
  | _ => none
def frzE (env : Env1) (i : Nat) : Option Env1 := match env[i]? with
  | some (.ow true f d) => some (env.set i (.sh f d))
  | some (.sh _ _) => some env
  | _ => none
/-- what is returned: a list or a dict of one's own may go -/
def retE (ft : FT) (e : X) (env : Env1) : Rs := match e with
  | .v i => match env[i]? with
    | some (.ow true f d) => ok (⟨true, f⟩, d)
    | s => lift (slotV s)
  | e => evE ft e env
def noE (env : Env1) : Env1 := env.map fun _ => Slot.no
/-- the told state -/
def wrkD : Bool → D → Bool
  | false, .tuple [_, .list fs, .dict es] => lenOk fs.length && lenOk es.length
  | true, .tuple (.tuple [_, .list fs, .dict es] :: _) => lenOk fs.length && lenOk es.length
  | _, _ => false
def wapD : D → Bool
  | .list xs => lenOk xs.length
  | _ => false
def evTl (ft : FT) (i : Nat) : T → Env1 → D → Ex D
  | .set j e t, env, d => bnd (evE ft e env) fun q => if j ≠ i ∧ j < env.length then evTl ft i t (env.set j (.sh false q.2)) d else none
  | .tst c r t, env, d => bnd (evT ft c (env.set i (.sh false d))) fun b => if b = true then bnd (evE ft r (env.set i (.sh false d))) fun q => if noMut q.2 = true then ok q.2 else none else evTl ft i t env d
  | .wap e, env, d => if wapD d = true then bnd (evE ft e env) fun q => if noMut q.2 = true then ok q.2 else none else none
  | .wrk dp kx e, env, d => if wrkD dp d = true then bnd (evE ft e env) fun q => if noMut q.2 = true then ok q.2 else none else none
def loS : Slot → Slot
  | .no => .no
  | .sh _ d => .sh false d
  | .ow _ _ d => .sh false d
def loE (env : Env1) : Env1 := env.map loS
def oldFree (env : Env1) : Bool := env.all fun s => match s with
  | .ow false _ _ => false
  | _ => true
/-! ### match -/
def p1E : P1 → D → Option (Option (List (Nat × D)))
  | .wild, _ => some (some [])
  | .cap i, d => some (some [(i, d)])
  | .lit ws, .str x => some (if x ∈ ws then some [] else none)
  | .lit _, _ => none
def psE : List P1 → List D → Option (Option (List (Nat × D)))
  | [], [] => some (some [])
  | p :: ps, d :: ds => match p1E p d with
    | none => none
    | some none => some none
    | some (some bs) => match psE ps ds with
      | none => none
      | some none => some none
      | some (some cs) => some (some (bs ++ cs))
  | _, _ => none
def ptE : Pt → D → Option (Option (List (Nat × D)))
  | .tup ps, .tuple ds => if ds.length = ps.length then psE ps ds else some none
  | .one ws, .str x => some (if x ∈ ws then some [] else none)
  | _, _ => none
def putB : Env1 → Bool → List (Nat × D) → Option Env1
  | env, _, [] => some env
  | env, f, (i, d) :: bs => (putS env i ⟨false, f⟩ d).bind fun e => putB e f bs
def grdE (ft : FT) (g : XO) (env : Env1) : Ex Bool := match g with
  | .no => ok true
  | .so x => evT ft x env
mutual
def evSt (ft : FT) : S → Env1 → Option Oc
  | .pass, env => some (.nx env)
  | .brk, env => some (.bk env)
  | .cont, env => some (.ct env)
  | .set i e, env => exO (evE ft e env) fun q => (putS env i q.1 q.2).map .nx
  | .unp is e, env => exO (evB ft e env) fun q => match q.2 with
      | .tuple ds => if ds.length = is.length then (putAll env is q.1 ds).map .nx else none
      | _ => none
  | .sti i ix e, env => if isOw env[i]? = true then exO (evE ft e env) fun q => exO (evB ft ix env) fun p => (stiE env i p.2 q.1 q.2).map .nx else none
  | .app i e, env => if isOwL env[i]? = true then exO (evE ft e env) fun q => (appE env i q.1 q.2).map .nx else none
  | .xt i e, env => if isOwL env[i]? = true then exO (evE ft e env) fun q => (extE env i q.1 q.2).map .nx else none
  | .aug i c, env => (augE env i c).map .nx
  | .wh c b, env => whS (fun e => evT ft c e) (fun e => evSl ft b e) turns env
  | .rev i, env => (revE env i).map .nx
  | .pop i, env => (popE env i).map .nx
  | .ife c a b, env => exO (evT ft c env) fun t => if t = true then evSl ft a env else evSl ft b env
  | .for1 i src b, env => exO (evSv ft src env) fun q => loopS (fun e d => putS e i ⟨false, q.1⟩ d) (fun e => evSl ft b e) q.2 env
  | .forT is src b, env => exO (evSv ft src env) fun q => loopS (fun e d => match d with
      | .tuple ds => if ds.length = is.length then putAll e is q.1 ds else none
      | _ => none) (fun e => evSl ft b e) q.2 env
  | .ret e, env => exO (retE ft e env) fun q => some (.rt env q.1 q.2)
  | .retn, env => some (.rt env ⟨false, true⟩ .none)
  | .mc dd f es, env => match ft.fn f with
      | some s => exO (evMA ft s.mu 0 es env) fun ds => if ds.length = s.n ∧ ((muPr s.mu 0 es).map (·.2)).Nodup ∧ (muPr s.mu 0 es).map (·.1) = s.mu then
          exO (s.F ds) fun r => (putMu env ((muPr s.mu 0 es).map (·.2)) r.2).bind fun e1 => mcEnd dd ⟨s.kd.own, s.kd.fr || noMut r.1⟩ r.1 e1 else none
      | none => none
  | .ex e, env => exO (evE ft e env) fun _ => some (.nx env)
  | .frz i, env => (frzE env i).map .nx
  | .tl i e t, env => exO (evE ft e (loE env)) fun q => if q.1.fr = true ∧ oldFree env = true ∧ i < env.length then exO (evTl ft i t ((loE env).set i .no) q.2) fun d => some (.rt (noE env) ⟨false, true⟩ d) else none
  | .mat i cs, env => match env[i]? with
      | some (.sh f d) => evCs ft cs f d env
      | _ => none
  | .unk, _ => none
  termination_by structural x => x
def evSl (ft : FT) : SL → Env1 → Option Oc
  | .nil, env => some (.nx env)
  | .cons s l, env => seqO (evSt ft s env) fun e => evSl ft l e
  termination_by structural x => x
def evCs (ft : FT) : CL → Bool → D → Env1 → Option Oc
  | .nil, _, _, env => some (.nx env)
  | .cons p g b cs, f, d, env => match ptE p d with
      | none => none
      | some none => evCs ft cs f d env
      | some (some bs) => match putB env f bs with
        | none => none
        | some e1 => exO (grdE ft g e1) fun t => if t = true then evSl ft b e1 else evCs ft cs f d e1
  termination_by structural x => x
end
/-! ### where one stands among statements -/
def OwnI (σ : L2.St) (env : Env1) (i : Nat) (a : Addr) : Prop := ∃ n f d, env[i]? = some (Slot.ow n f d) ∧ σ[i]? = some (some (V.ref a))
def Own (σ : L2.St) (env : Env1) (a : Addr) : Prop := ∃ i, OwnI σ env i a
def Fbs (H₀ : Hp) (O₀ : Addr → Prop) (σ : L2.St) (env : Env1) (f : Bool) : Addr → Prop := fun a => forb H₀ O₀ f a ∨ Own σ env a
section
variable (ft : FT) (k : Nat) (N : List Str) (tabs : List Addr)
/-- what stays through a def -/
structure DC (W : WX) (sc : Scope) (H₀ : Hp) (O₀ M : Addr → Prop) (X : Cx) : Prop where
  gc : GC ft k N tabs W X sc
  po : PassesOwn (model X.prog X.w) X.A X.env X.xe
  fn : ∀ x, X.fn x = true
  sce : X.env.scope = sc
  o0 : ∀ a, O₀ a → H₀ a ≠ none
  m0 : ∀ a, M a → O₀ a
structure SV (X : Cx) (H₀ : Hp) (O₀ M : Addr → Prop) (mu0 : Nat → Addr → Prop) (σ : L2.St) (H : Hp) (env : Env1) : Prop where
  ev : EV X.K H (Fbs H₀ O₀ σ env) σ env
  inj : ∀ i j a, OwnI σ env i a → OwnI σ env j a → i = j
  nw : ∀ (i : Nat) f d (a : Addr), env[i]? = some (Slot.ow true f d) → σ[i]? = some (some (V.ref a)) → H₀ a = none
  od : ∀ (i : Nat) f d (a : Addr), env[i]? = some (Slot.ow false f d) → σ[i]? = some (some (V.ref a)) → M a
  mu : ∀ (i : Nat) (a : Addr), mu0 i a → ∃ f d, env[i]? = some (Slot.ow false f d) ∧ σ[i]? = some (some (V.ref a))
  gr : GrM M H₀ H
  tb : TB tabs H
end
/-- what a statement leaves -/
structure Fr (σ : L2.St) (env : Env1) (H : Hp) (σ' : L2.St) (env' : Env1) (H' : Hp) : Prop where
  gr : GrM (Own σ env) H H'
  own : ∀ a, Own σ' env' a → Own σ env a ∨ H a = none
variable {ft : FT} {k : Nat} {N : List Str} {tabs : List Addr} {W : WX} {sc : Scope} {H₀ : Hp} {O₀ M : Addr → Prop} {mu0 : Nat → Addr → Prop} {X : Cx} {σ σ' σ2 : L2.St} {H H' H2 : Hp} {env env' env2 : Env1}
theorem Fr.refl : Fr σ env H σ env H := ⟨GrM.refl, fun a h => .inl h⟩
theorem Fr.trans (a : Fr σ env H σ' env' H') (b : Fr σ' env' H' σ2 env2 H2) : Fr σ env H σ2 env2 H2 := by
  refine ⟨⟨fun x o e m t => ?_, fun P h => b.gr.tabs P (a.gr.tabs P h), fun x h => b.gr.there x (a.gr.there x h), fun x xs h => b.gr.tups x xs (a.gr.tups x xs h), fun x o u h => b.gr.frzs x o u (a.gr.frzs x o u h), fun x o u h => a.gr.unfz x o u (b.gr.unfz x o u h)⟩, fun x h => ?_⟩
  · refine b.gr.keep x o (a.gr.keep x o e m t) (fun z => ?_) t
    rcases a.own x z with y | y
    · exact m y
    · rw [e] at y; cases y
  · rcases b.own x h with z | z
    · exact a.own x z
    · right
      cases e : H x with
      | none => rfl
      | some o => exact absurd z (a.gr.there x (by rw [e]; exact fun q => by cases q))
theorem Fr.of_gr (g : Gr H H') : Fr σ env H σ env H' := ⟨g.any, fun a h => .inl h⟩
theorem SV.tracked (S : SV tabs X H₀ O₀ M mu0 σ H env) {a : Addr} (h : Own σ env a) : H a ≠ none := by
  obtain ⟨i, n, f, d, e1, e2⟩ := h
  obtain ⟨b, e3, o⟩ := S.ev.ow i n f d e1
  rw [e2] at e3; cases e3
  exact o.there
theorem SV.fb (C : DC ft k N tabs W sc H₀ O₀ M X) (S : SV tabs X H₀ O₀ M mu0 σ H env) : FbOk H (Fbs H₀ O₀ σ env) := by
  refine ⟨fun a z => ?_, fun a z => ?_⟩
  · rcases z with z | z
    · exact .inl (C.o0 a z)
    · exact .inr z
  · rcases z with z | z
    · exact S.gr.there a z
    · exact S.tracked z
theorem SV.at (C : DC ft k N tabs W sc H₀ O₀ M X) (S : SV tabs X H₀ O₀ M mu0 σ H env) : At ft k N tabs X W sc (Fbs H₀ O₀ σ env) σ H env := ⟨C.gc, S.ev, S.fb C, S.tb⟩
theorem SV.grow (S : SV tabs X H₀ O₀ M mu0 σ H env) (g : Gr H H') : SV tabs X H₀ O₀ M mu0 σ H' env := ⟨S.ev.gr g, S.inj, S.nw, S.od, S.mu, S.gr.trans g.any, S.tb.gr g⟩
theorem GrM.none_back {M : Addr → Prop} {H1 H2 : Hp} (g : GrM M H1 H2) {a : Addr} (h : H2 a = none) : H1 a = none := by
  cases e : H1 a with
  | none => rfl
  | some o => exact absurd h (g.there a (by rw [e]; exact fun q => by cases q))
/-- a value comes into a slot -/
theorem SV.put (C : DC ft k N tabs W sc H₀ O₀ M X) (S : SV tabs X H₀ O₀ M mu0 σ H env) {i : Nat} {kd : Kd} {v : V} {d : D} (g : Gr H H2) (vr : VR X.K (Fbs H₀ O₀ σ env) H H2 kd v d) (hp : putS env i kd d = some env2) :
    SV tabs X H₀ O₀ M mu0 (σ.set i (some v)) H2 env2 ∧ Fr σ env H (σ.set i (some v)) env2 H2 ∧ (∀ a, Own (σ.set i (some v)) env2 a → Own σ env a ∨ H a = none) := by
  unfold putS at hp
  split at hp
  · rename_i c
    cases hp
    obtain ⟨hi, hm⟩ := c
    have hiσ : i < σ.length := by rw [← S.ev.len]; exact hi
    -- the owned ones
    have own' : ∀ j a, OwnI (σ.set i (some v)) (env.set i (slotOf kd d)) j a → (j ≠ i ∧ OwnI σ env j a) ∨ (j = i ∧ kd.own = true ∧ v = .ref a ∧ H a = none) := by
      rintro j a ⟨n, f, d', e1, e2⟩
      by_cases z : j = i
      · subst z
        rw [List.getElem?_set_self hi] at e1
        rw [List.getElem?_set_self hiσ] at e2
        cases e2
        unfold slotOf at e1
        split at e1
        · rename_i ho
          cases e1
          obtain ⟨b, e3, e4, _⟩ := vr.2 ho
          cases e3
          exact .inr ⟨rfl, ho, rfl, e4⟩
        · cases e1
      · rw [List.getElem?_set_ne (Ne.symm z)] at e1 e2
        exact .inl ⟨z, n, f, d', e1, e2⟩
    have ownF : ∀ a, Own (σ.set i (some v)) (env.set i (slotOf kd d)) a → Own σ env a ∨ H a = none := by
      rintro a ⟨j, h⟩
      rcases own' j a h with ⟨_, h⟩ | ⟨_, _, _, h⟩
      · exact .inl ⟨j, h⟩
      · exact .inr h
    have less : ∀ f a, Fbs H₀ O₀ (σ.set i (some v)) (env.set i (slotOf kd d)) f a → ¬ Fbs H₀ O₀ σ env f a → H a = none := by
      intro f a z y
      rcases z with z | z
      · exact absurd (.inl z) y
      · rcases ownF a z with z | z
        · exact absurd (.inr z) y
        · exact z
    have kp : ∀ f, Keep (Fbs H₀ O₀ σ env f) (Fbs H₀ O₀ (σ.set i (some v)) (env.set i (slotOf kd d)) f) X.K H H2 := fun f => GrM.keeps g (fun _ z => z.elim) (less f)
    refine ⟨⟨⟨by rw [List.length_set, List.length_set]; exact S.ev.len, fun j f d' e => ?_, fun j n f d' e => ?_⟩, fun j j' a h h' => ?_, fun j f d' a e1 e2 => ?_, fun j f d' a e1 e2 => ?_, fun j a hj => ?_, S.gr.trans g.any, S.tb.gr g⟩, ⟨g.any, ownF⟩, ownF⟩
    · by_cases z : j = i
      · subst z
        rw [List.getElem?_set_self hi] at e
        refine ⟨v, List.getElem?_set_self hiσ, ?_⟩
        unfold slotOf at e
        split at e
        · cases e
        · rename_i ho
          cases e
          refine vr.1.less fun a z => ?_
          rcases z with z | ⟨j', z⟩
          · exact .inl z
          · rcases own' j' a z with ⟨_, h⟩ | ⟨_, h, _⟩
            · exact .inr ⟨j', h⟩
            · exact absurd h ho
      · rw [List.getElem?_set_ne (Ne.symm z)] at e
        obtain ⟨w, e1, r⟩ := S.ev.sh j f d' e
        exact ⟨w, by rw [List.getElem?_set_ne (Ne.symm z)]; exact e1, r.keep (kp f)⟩
    · by_cases z : j = i
      · subst z
        rw [List.getElem?_set_self hi] at e
        unfold slotOf at e
        split at e
        · rename_i ho
          cases e
          obtain ⟨b, e3, e4, o⟩ := vr.2 ho
          refine ⟨b, by rw [e3]; exact List.getElem?_set_self hiσ, o.less fun a z => ?_⟩
          rcases z with z | ⟨j', z⟩
          · exact .inl (.inl z)
          · rcases own' j' a z with ⟨_, h⟩ | ⟨_, _, h, _⟩
            · exact .inl (.inr ⟨j', h⟩)
            · rw [e3] at h; cases h; exact .inr rfl
        · cases e
      · rw [List.getElem?_set_ne (Ne.symm z)] at e
        obtain ⟨w, e1, r⟩ := S.ev.ow j n f d' e
        exact ⟨w, by rw [List.getElem?_set_ne (Ne.symm z)]; exact e1, r.keep (kp f) fun o h t => g.keep w o h id t⟩
    · rcases own' j a h with ⟨n1, h1⟩ | ⟨n1, _, _, h1⟩ <;> rcases own' j' a h' with ⟨n2, h2⟩ | ⟨n2, _, _, h2⟩
      · exact S.inj j j' a h1 h2
      · exact absurd h2 (S.tracked ⟨j, h1⟩)
      · exact absurd h1 (S.tracked ⟨j', h2⟩)
      · rw [n1, n2]
    · by_cases z : j = i
      · subst z
        rw [List.getElem?_set_self hi] at e1
        rw [List.getElem?_set_self hiσ] at e2
        cases e2
        unfold slotOf at e1
        split at e1
        · rename_i ho
          obtain ⟨b, e3, e4, _⟩ := vr.2 ho
          cases e3
          exact S.gr.none_back e4
        · cases e1
      · rw [List.getElem?_set_ne (Ne.symm z)] at e1 e2
        exact S.nw j f d' a e1 e2
    · by_cases z : j = i
      · subst z
        rw [List.getElem?_set_self hi] at e1
        unfold slotOf at e1
        split at e1 <;> cases e1
      · rw [List.getElem?_set_ne (Ne.symm z)] at e1 e2
        exact S.od j f d' a e1 e2
    · obtain ⟨f, d', e1, e2⟩ := S.mu j a hj
      have z : j ≠ i := fun z => by
        rw [z] at e1
        rw [e1] at hm
        cases hm
      exact ⟨f, d', by rw [List.getElem?_set_ne (Ne.symm z)]; exact e1, by rw [List.getElem?_set_ne (Ne.symm z)]; exact e2⟩
  · cases hp
/-- what an owned slot holds is changed -/
theorem SV.mut (C : DC ft k N tabs W sc H₀ O₀ M X) (S : SV tabs X H₀ O₀ M mu0 σ H env) {i : Nat} {n f f' : Bool} {d d' : D} {a : Addr} {o : HO} (e1 : env[i]? = some (.ow n f d)) (e2 : σ[i]? = some (some (.ref a)))
    (hw : OwAt X.K (upd H a o) (Fbs H₀ O₀ σ env f') a d') : SV tabs X H₀ O₀ M mu0 σ (upd H a o) (env.set i (.ow n f' d')) ∧ Fr σ env H σ (env.set i (.ow n f' d')) (upd H a o) := by
  have hi : i < env.length := (List.getElem?_eq_some_iff.mp e1).1
  have oi : OwnI σ env i a := ⟨n, f, d, e1, e2⟩
  have iff : ∀ j b, OwnI σ (env.set i (.ow n f' d')) j b ↔ OwnI σ env j b := by
    intro j b
    by_cases z : j = i
    · subst z
      constructor
      · rintro ⟨n2, f2, d2, q1, q2⟩
        rw [e2] at q2; cases q2
        exact oi
      · rintro ⟨n2, f2, d2, q1, q2⟩
        rw [e2] at q2; cases q2
        exact ⟨n, f', d', List.getElem?_set_self hi, e2⟩
    · unfold OwnI
      rw [List.getElem?_set_ne (Ne.symm z)]
  have iffO : ∀ b, Own σ (env.set i (.ow n f' d')) b ↔ Own σ env b := fun b => exists_congr fun j => iff j b
  have fbe : ∀ g b, Fbs H₀ O₀ σ (env.set i (.ow n f' d')) g b → Fbs H₀ O₀ σ env g b := fun g b z => z.imp id (iffO b).mp
  obtain ⟨b, q1, ow⟩ := S.ev.ow i n f d e1
  rw [e2] at q1; cases q1
  have hu : ∀ q z, o ≠ .frz q z := fun q z e => by
    rw [e] at hw
    cases hw with
    | lst e2 _ => rw [upd_same] at e2; cases e2
    | dct e2 _ => rw [upd_same] at e2; cases e2
  have gput : ∀ {M' : Addr → Prop}, M' a → GrM M' H (upd H a o) := fun m => by
    cases ow with
    | lst e r => exact GrM.put e m (fun _ z => by cases z) (fun _ z => by cases z) (fun _ _ z => by cases z) hu
    | dct e r => exact GrM.put e m (fun _ z => by cases z) (fun _ z => by cases z) (fun _ _ z => by cases z) hu
  have g1 : GrM (fun b => b = a) H (upd H a o) := gput rfl
  have kp : ∀ g, Keep (Fbs H₀ O₀ σ env g) (Fbs H₀ O₀ σ (env.set i (.ow n f' d')) g) X.K H (upd H a o) := fun g =>
    GrM.keeps g1 (fun b z => by rw [z]; exact .inr ⟨i, oi⟩) fun b z y => absurd (fbe g b z) y
  refine ⟨⟨⟨by rw [List.length_set]; exact S.ev.len, fun j g x e => ?_, fun j m g x e => ?_⟩, fun j j' b h h' => S.inj j j' b ((iff j b).mp h) ((iff j' b).mp h'), fun j g x b q1 q2 => ?_, fun j g x b q1 q2 => ?_, fun j b hj => ?_, ?_, S.tb.gr g1⟩, ⟨gput ⟨i, oi⟩, fun b h => .inl ((iffO b).mp h)⟩⟩
  · by_cases z : j = i
    · subst z
      rw [List.getElem?_set_self hi] at e; cases e
    · rw [List.getElem?_set_ne (Ne.symm z)] at e
      obtain ⟨w, q1, r⟩ := S.ev.sh j g x e
      exact ⟨w, q1, r.keep (kp g)⟩
  · by_cases z : j = i
    · subst z
      rw [List.getElem?_set_self hi] at e; cases e
      exact ⟨a, e2, hw.less (fbe _)⟩
    · rw [List.getElem?_set_ne (Ne.symm z)] at e
      obtain ⟨w, q1, r⟩ := S.ev.ow j m g x e
      have hne : w ≠ a := fun q => z (S.inj j i a ⟨m, g, x, e, by rw [← q]; exact q1⟩ oi)
      exact ⟨w, q1, r.keep (kp g) fun o' h t => by rw [upd_ne hne]; exact h⟩
  · by_cases z : j = i
    · subst z
      rw [List.getElem?_set_self hi] at q1; cases q1
      exact S.nw j f d b e1 q2
    · rw [List.getElem?_set_ne (Ne.symm z)] at q1
      exact S.nw j g x b q1 q2
  · by_cases z : j = i
    · subst z
      rw [List.getElem?_set_self hi] at q1; cases q1
      exact S.od j f d b e1 q2
    · rw [List.getElem?_set_ne (Ne.symm z)] at q1
      exact S.od j g x b q1 q2
  · obtain ⟨g, x, q1, q2⟩ := S.mu j b hj
    by_cases z : j = i
    · subst z
      rw [e1] at q1; cases q1
      exact ⟨f', d', List.getElem?_set_self hi, q2⟩
    · exact ⟨g, x, by rw [List.getElem?_set_ne (Ne.symm z)]; exact q1, q2⟩
  · cases n with
    | true =>
      have hn := S.nw i f d a e1 e2
      cases ow with
      | lst e r => exact S.gr.put_new hn e (fun _ z => by cases z) (fun _ z => by cases z) (fun _ _ z => by cases z) hu
      | dct e r => exact S.gr.put_new hn e (fun _ z => by cases z) (fun _ z => by cases z) (fun _ _ z => by cases z) hu
    | false => exact S.gr.trans (gput (S.od i f d a e1 e2))
/-- an owned slot is given free -/
theorem SV.frz (C : DC ft k N tabs W sc H₀ O₀ M X) (S : SV tabs X H₀ O₀ M mu0 σ H env) {i : Nat} (h : frzE env i = some env2) : SV tabs X H₀ O₀ M mu0 σ H env2 ∧ Fr σ env H σ env2 H := by
  unfold frzE at h
  split at h
  · rename_i f d e1
    cases h
    have hi : i < env.length := (List.getElem?_eq_some_iff.mp e1).1
    obtain ⟨a, e2, ow⟩ := S.ev.ow i true f d e1
    have own' : ∀ j b, OwnI σ (env.set i (.sh f d)) j b → j ≠ i ∧ OwnI σ env j b := by
      rintro j b ⟨n2, f2, d2, q1, q2⟩
      by_cases z : j = i
      · subst z
        rw [List.getElem?_set_self hi] at q1; cases q1
      · rw [List.getElem?_set_ne (Ne.symm z)] at q1
        exact ⟨z, n2, f2, d2, q1, q2⟩
    have ownF : ∀ b, Own σ (env.set i (.sh f d)) b → Own σ env b := fun b ⟨j, z⟩ => ⟨j, (own' j b z).2⟩
    have fbe : ∀ g b, Fbs H₀ O₀ σ (env.set i (.sh f d)) g b → Fbs H₀ O₀ σ env g b := fun g b z => z.imp id (ownF b)
    have kp : ∀ g, Keep (Fbs H₀ O₀ σ env g) (Fbs H₀ O₀ σ (env.set i (.sh f d)) g) X.K H H := fun g => Keep.weak (fbe g)
    refine ⟨⟨⟨by rw [List.length_set]; exact S.ev.len, fun j g x e => ?_, fun j m g x e => ?_⟩, fun j j' b h h' => S.inj j j' b (own' j b h).2 (own' j' b h').2, fun j g x b q1 q2 => ?_, fun j g x b q1 q2 => ?_, fun j b hj => ?_, S.gr, S.tb⟩, ⟨GrM.refl, fun b h => .inl (ownF b h)⟩⟩
    · by_cases z : j = i
      · subst z
        rw [List.getElem?_set_self hi] at e; cases e
        refine ⟨_, e2, ow.rp (kp f) fun z => ?_⟩
        have hn := S.nw j f d a e1 e2
        rcases z with z | ⟨j', z⟩
        · cases f with
          | true => exact z hn
          | false => exact C.o0 a z hn
        · have z' := own' j' a z
          exact z'.1 (S.inj j' j a z'.2 ⟨true, f, d, e1, e2⟩)
      · rw [List.getElem?_set_ne (Ne.symm z)] at e
        obtain ⟨w, q1, r⟩ := S.ev.sh j g x e
        exact ⟨w, q1, r.keep (kp g)⟩
    · by_cases z : j = i
      · subst z
        rw [List.getElem?_set_self hi] at e; cases e
      · rw [List.getElem?_set_ne (Ne.symm z)] at e
        obtain ⟨w, q1, r⟩ := S.ev.ow j m g x e
        exact ⟨w, q1, r.keep (kp g) fun o' h t => h⟩
    · by_cases z : j = i
      · subst z
        rw [List.getElem?_set_self hi] at q1; cases q1
      · rw [List.getElem?_set_ne (Ne.symm z)] at q1
        exact S.nw j g x b q1 q2
    · by_cases z : j = i
      · subst z
        rw [List.getElem?_set_self hi] at q1; cases q1
      · rw [List.getElem?_set_ne (Ne.symm z)] at q1
        exact S.od j g x b q1 q2
    · obtain ⟨g, x, q1, q2⟩ := S.mu j b hj
      have z : j ≠ i := fun z => by rw [z, e1] at q1; cases q1
      exact ⟨g, x, by rw [List.getElem?_set_ne (Ne.symm z)]; exact q1, q2⟩
  · cases h
    exact ⟨S, Fr.refl⟩
  · cases h
end R
namespace R
open PySem PySem.Spec PyProof.Rows L2
variable {ft : FT} {k : Nat} {N : List Str} {tabs : List Addr} {W : WX} {sc : Scope} {H₀ : Hp} {O₀ M : Addr → Prop} {mu0 : Nat → Addr → Prop} {X : Cx} {σ σ' σ2 : L2.St} {H H' H1 H2 : Hp} {env env' env2 : Env1}
theorem Fr.keep {K : PySem.W.Frag} (h : Fr σ env H σ' env' H') (f : Bool) : Keep (Fbs H₀ O₀ σ env f) (Fbs H₀ O₀ σ' env' f) K H H' :=
  GrM.keeps h.gr (fun a z => .inr z) fun a z y => by
    rcases z with z | z
    · exact absurd (.inl z) y
    · rcases h.own a z with z | z
      · exact absurd (.inr z) y
      · exact z
/-- several owned slots' contents are changed by a call -/
theorem SV.change (C : DC ft k N tabs W sc H₀ O₀ M X) (S : SV tabs X H₀ O₀ M mu0 σ H env) (js : List Nat) (g : GrM (fun a => ∃ j, j ∈ js ∧ OwnI σ env j a) H H2) (len : env2.length = env.length)
    (out : ∀ i, i ∉ js → env2[i]? = env[i]?) (inn : ∀ i a, i ∈ js → OwnI σ env i a → ∃ n f d f' d', env[i]? = some (Slot.ow n f d) ∧ env2[i]? = some (Slot.ow n f' d') ∧ OwAt X.K H2 (Fbs H₀ O₀ σ env f') a d')
    (tot : ∀ i, i ∈ js → ∃ a, OwnI σ env i a) : SV tabs X H₀ O₀ M mu0 σ H2 env2 ∧ Fr σ env H σ env2 H2 := by
  have iff : ∀ i a, OwnI σ env2 i a ↔ OwnI σ env i a := by
    intro i a
    by_cases hi : i ∈ js
    · obtain ⟨b, ob⟩ := tot i hi
      obtain ⟨n, f, d, f', d', e1, e2, _⟩ := inn i b hi ob
      obtain ⟨_, _, _, _, e3⟩ := ob
      constructor
      · rintro ⟨_, _, _, _, q⟩; exact ⟨n, f, d, e1, q⟩
      · rintro ⟨_, _, _, _, q⟩; exact ⟨n, f', d', e2, q⟩
    · unfold OwnI; rw [out i hi]
  have iffO : ∀ a, Own σ env2 a ↔ Own σ env a := fun a => exists_congr fun i => iff i a
  have fbe : ∀ f a, Fbs H₀ O₀ σ env2 f a → Fbs H₀ O₀ σ env f a := fun f a z => z.imp id (iffO a).mp
  have gO : GrM (Own σ env) H H2 := g.mono fun a ⟨j, _, h⟩ => ⟨j, h⟩
  have kp : ∀ f, Keep (Fbs H₀ O₀ σ env f) (Fbs H₀ O₀ σ env2 f) X.K H H2 := fun f => GrM.keeps gO (fun a z => .inr z) fun a z y => absurd (fbe f a z) y
  refine ⟨⟨⟨len.trans S.ev.len, fun i f d e => ?_, fun i n f d e => ?_⟩, fun i j a h h' => S.inj i j a ((iff i a).mp h) ((iff j a).mp h'), fun i f d a e1 e2 => ?_, fun i f d a e1 e2 => ?_, fun i a hi => ?_, ?_, S.tb.gr g⟩, ⟨gO, fun a h => .inl ((iffO a).mp h)⟩⟩
  · by_cases hi : i ∈ js
    · obtain ⟨b, ob⟩ := tot i hi
      obtain ⟨n, f0, d0, f', d', _, e2, _⟩ := inn i b hi ob
      rw [e2] at e; cases e
    · rw [out i hi] at e
      obtain ⟨v, e1, r⟩ := S.ev.sh i f d e
      exact ⟨v, e1, r.keep (kp f)⟩
  · by_cases hi : i ∈ js
    · obtain ⟨b, ob⟩ := tot i hi
      obtain ⟨n0, f0, d0, f', d', _, e2, ow⟩ := inn i b hi ob
      rw [e2] at e; cases e
      obtain ⟨_, _, _, _, e3⟩ := ob
      exact ⟨b, e3, ow.less (fbe _)⟩
    · rw [out i hi] at e
      obtain ⟨a, e1, r⟩ := S.ev.ow i n f d e
      refine ⟨a, e1, r.keep (kp f) fun o h t => g.keep a o h (fun z => ?_) t⟩
      obtain ⟨j, hj, oj⟩ := z
      exact hi (by rw [S.inj i j a ⟨n, f, d, e, e1⟩ oj]; exact hj)
  · obtain ⟨n, f1, d1, q1, q2⟩ := (iff i a).mp ⟨_, _, _, e1, e2⟩
    by_cases hi : i ∈ js
    · obtain ⟨n0, f0, d0, f', d', q3, q4, _⟩ := inn i a hi ⟨n, f1, d1, q1, q2⟩
      rw [q4] at e1; cases e1
      exact S.nw i f0 d0 a q3 e2
    · rw [out i hi] at e1
      exact S.nw i f d a e1 e2
  · obtain ⟨n, f1, d1, q1, q2⟩ := (iff i a).mp ⟨_, _, _, e1, e2⟩
    by_cases hi : i ∈ js
    · obtain ⟨n0, f0, d0, f', d', q3, q4, _⟩ := inn i a hi ⟨n, f1, d1, q1, q2⟩
      rw [q4] at e1; cases e1
      exact S.od i f0 d0 a q3 e2
    · rw [out i hi] at e1
      exact S.od i f d a e1 e2
  · obtain ⟨f, d, q1, q2⟩ := S.mu i a hi
    by_cases hj : i ∈ js
    · obtain ⟨n0, f0, d0, f', d', q3, q4, _⟩ := inn i a hj ⟨_, f, d, q1, q2⟩
      rw [q1] at q3; cases q3
      exact ⟨f', d', q4, q2⟩
    · exact ⟨f, d, by rw [out i hj]; exact q1, q2⟩
  · refine ⟨fun a o e m t => g.keep a o (S.gr.keep a o e m t) (fun z => ?_) t, fun P h => g.tabs P (S.gr.tabs P h), fun a h => g.there a (S.gr.there a h), fun a xs h => g.tups a xs (S.gr.tups a xs h), fun a o u h => g.frzs a o u (S.gr.frzs a o u h), fun a o u h => S.gr.unfz a o u (g.unfz a o u h)⟩
    obtain ⟨j, _, n, f, d, q1, q2⟩ := z
    cases n with
    | true => rw [S.nw j f d a q1 q2] at e; cases e
    | false => exact m (S.od j f d a q1 q2)
/-! ### names as targets -/
def asgB (sc : Scope) (x : Str) : Bool := match sc.names.lookup x with
  | some .local => true
  | some .cell => true
  | _ => false
theorem asg_loc {x : Str} (h : asgB sc x = true) : Loc sc x := by
  unfold asgB at h
  cases e : sc.names.lookup x with
  | none => rw [e] at h; cases h
  | some kd =>
    rw [e] at h
    cases kd with
    | «local» => exact .inl e
    | cell => exact .inr e
    | _ => cases h
def nameB (N : List Str) (sc : Scope) (i : Nat) (x : Str) : Bool := decide (N[i]? = some x) && asgB sc x
def tgsB (N : List Str) (sc : Scope) : List Nat → List Expr → Bool
  | [], [] => true
  | i :: is, .Name x _ :: es => nameB N sc i x && tgsB N sc is es
  | _, _ => false
def gNs : List Nat → TGs
  | [] => gNil
  | i :: is => gCons (gName i) (gNs is)
theorem tgs_len {e : PySem.Env} : ∀ {is : List Nat} {es : List Expr}, tgsB N sc is es = true → (assignEach es e).length = is.length ∧ (assignEach es e).findIdx? (·.1) = none
  | [], [], _ => ⟨rfl, rfl⟩
  | [], _ :: _, h => by simp [tgsB] at h
  | _ :: _, [], h => by simp [tgsB] at h
  | i :: is, x :: es, h => by
    cases x with
    | Name y p =>
      simp only [tgsB, Bool.and_eq_true] at h
      obtain ⟨a, b⟩ := tgs_len (e := e) h.2
      refine ⟨?_, ?_⟩
      · show (assignEach es e).length + 1 = is.length + 1
        rw [a]
      · show List.findIdx? (·.1) ((false, assign (.Name y p) e) :: assignEach es e) = none
        rw [List.findIdx?_cons, b]; rfl
    | _ => simp [tgsB] at h
theorem pgs_names (C : DC ft k N tabs W sc H₀ O₀ M X) : ∀ {is : List Nat} {es : List Expr}, tgsB N sc is es = true → PGs X es (gNs is)
  | [], [], _ => pgs_nil
  | [], _ :: _, h => by simp [tgsB] at h
  | _ :: _, [], h => by simp [tgsB] at h
  | i :: is, x :: es, h => by
    cases x with
    | Name y p =>
      simp only [tgsB, nameB, Bool.and_eq_true, decide_eq_true_eq] at h
      exact pgs_cons (pg_name (by rw [C.gc.hN]; exact C.gc.nd) (by rw [C.gc.hN]; exact h.1.1) (by rw [C.sce]; exact asg_loc h.1.2) (.inl (C.fn y))) (pgs_names C h.2) rfl
    | _ => simp [tgsB] at h
theorem gNs_run (C : DC ft k N tabs W sc H₀ O₀ M X) : ∀ {is : List Nat} {σ : L2.St} {env : Env1} {vs : List V} {ds : List D} {f : Bool} {Q : L2.St → Hp → Prop}, SV tabs X H₀ O₀ M mu0 σ H env → RpA X.K H (Fbs H₀ O₀ σ env f) vs ds → putAll env is f ds = some env2 →
    (∀ σ', SV tabs X H₀ O₀ M mu0 σ' H env2 → Fr σ env H σ' env2 H → Q σ' H) → gNs is vs σ H Q
  | [], σ, env, vs, ds, f, Q, S, r, hp, q => by
    cases r with
    | nil => cases hp; exact ⟨rfl, q _ S Fr.refl⟩
    | cons _ _ => cases hp
  | i :: is, σ, env, vs, ds, f, Q, S, r, hp, q => by
    cases r with
    | nil => cases hp
    | cons rv rt =>
      rename_i v vs d ds
      simp only [putAll] at hp
      cases e : putS env i ⟨false, f⟩ d with
      | none => rw [e] at hp; cases hp
      | some e1 =>
        rw [e] at hp
        obtain ⟨S1, F1, _⟩ := S.put C (H2 := H) GrM.refl (VR.al rv) e
        refine ⟨v, vs, rfl, ?_⟩
        show gNs is vs (σ.set i (some v)) H Q
        exact gNs_run C S1 (rt.keep (F1.keep f)) hp fun σ' S' F' => q σ' S' (F1.trans F')
end R
namespace PySem
open PySem.Spec PySem.Calls PyProof.Rows
set_option maxRecDepth 8000 in
theorem list_extend_tupW (l : Addr) (items : Array Value) (n : Nat) (b : Addr) (items2 : Array Value) (n2 : Nat) (dd : Option Addr) (sl : Array (Option Value)) (hs0 : ¬(!items.isEmpty && Builtin.List.listTooLong (items.size + items2.size)) = true) (hs1 : items.size ≤ sizeLine) (hs2 : items.size + items2.size ≤ sizeLine + 1) :
    Meets (Builtin.«list.extend» ⟨[.ref l, .ref b], []⟩) (fun _ R s => s.heap.get? l = some { cls := .type "list", dict := none, data := .seq items n, slots := #[] } ∧ s.heap.get? b = some { cls := .type "tuple", dict := dd, data := .seq items2 n2, slots := sl } ∧ R (.ok (.ret Value.none)) { s with heap := s.heap.update l (Obj.mapSeq fun x => x ++ items2), toks := s.toks }) :=
  .of_wp fun prog w A R s h => by
    obtain ⟨hp, g, d, tk, os⟩ := s; obtain ⟨hl, hb, h⟩ := h
    have hz' : (items ++ items2).size ≤ sizeLine + 1 := by rw [Array.size_append]; exact hs2
    wp_walk using (wpAny_updateSeq hl rfl (hz := hs1) (_hz' := hz')), wpAny_loadPart' hl, wpAny_loadPart' hb; exact ⟨_, rfl, h⟩
end PySem
namespace R
open PySem PySem.Spec PyProof.Rows L2
variable {X : Cx}
def rExtT (K : PySem.W.Frag) : V → List V → Hp → VK → Prop := fun x vs H Q => ∃ l b xs zs, x = .ref l ∧ vs = [.ref b] ∧ H l = some (.lst xs) ∧ SqT K H b zs ∧ xs.length + zs.length ≤ sizeLine ∧ Q .non (upd H l (.lst (xs ++ zs)))
theorem mt_extT : MtM X "list.extend" (rExtT X.K) := by
  intro pins s σ H x vs v us Q I rx rv h
  obtain ⟨l, b, xs, zs, rfl, rfl, hH, hB, hz, q⟩ := h
  cases rx
  obtain ⟨u, rfl, ru⟩ := rv.one
  cases ru
  obtain ⟨z, its, n, r, hl, e⟩ := I.lstM hH
  obtain ⟨its2, r2, ⟨o2, e2, hc2, n2, hd2⟩, z2⟩ := I.tuple hB
  have hl2 := r2.length
  obtain ⟨oc, od, dt, osl⟩ := o2
  replace hc2 : oc = .type "tuple" := hc2
  replace hd2 : dt = .seq its2.toArray n2 := hd2
  subst hc2 hd2
  have hsz : its.toArray.size + its2.toArray.size ≤ sizeLine := by rw [List.size_toArray, List.size_toArray]; omega
  have hlong : ¬ (!its.toArray.isEmpty && Builtin.List.listTooLong (its.toArray.size + its2.toArray.size)) = true := by
    rw [notLongL hsz, Bool.and_false]
    exact Bool.false_ne_true
  refine call_meets F.slot_list_extend ⟨_, e, rfl⟩ F.entry_list_extend (F.args_list_extend_2 _ _)
    (PySem.list_extend_tupW l its.toArray n b its2.toArray n2 od osl hlong (by rw [List.size_toArray]; omega) (by omega)) ⟨e, e2, ?_⟩
  refine ⟨.non, _, I.lset (its' := its ++ its2) hH e (by simp) (r.append r2) ?_, rfl, q⟩
  rw [List.length_append]
  omega
end R
namespace R
open PySem PySem.Spec PyProof.Rows L2
variable {ft : FT} {k : Nat} {N : List Str} {tabs : List Addr} {W : WX} {sc : Scope} {H₀ : Hp} {O₀ M : Addr → Prop} {mu0 : Nat → Addr → Prop} {X : Cx} {σ σ' σ2 : L2.St} {H H' H1 H2 : Hp} {env env' env2 : Env1}
def SD (X : Cx) (st : Stmt) : TS := fun D σ H => ∀ pins s, Inv X pins σ H s → wpAny (model X.prog X.w) X.A (exec st X.env) (SP X pins D) X.xe s
def SDs (X : Cx) (sts : List Stmt) : TS := fun D σ H => ∀ pins s, Inv X pins σ H s → wpAny (model X.prog X.w) X.A (execs sts X.env) (SP X pins D) X.xe s
theorem ps_S {X : Cx} {st : Stmt} : PS X st (SD X st) := ⟨fun pins s σ H D I h => h pins s I⟩
theorem pss_S {X : Cx} {sts : List Stmt} : PSs X sts (SDs X sts) := ⟨fun pins s σ H D I h => h pins s I⟩
theorem SD.of {X : Cx} {st : Stmt} {t : TS} (h : PS X st t) {D : Ends} {σ : L2.St} {H : Hp} (q : t D σ H) : SD X st D σ H := fun pins s I => h.run pins s σ H D I q
theorem SDs.of {X : Cx} {sts : List Stmt} {t : TS} (h : PSs X sts t) {D : Ends} {σ : L2.St} {H : Hp} (q : t D σ H) : SDs X sts D σ H := fun pins s I => h.run pins s σ H D I q
def Post (tabs : List Addr) (X : Cx) (W : WX) (H₀ : Hp) (O₀ M : Addr → Prop) (mu0 : Nat → Addr → Prop) (σ : L2.St) (env : Env1) (H : Hp) (D : Ends) : Oc → Prop
  | .nx e' => ∀ σ' H', SV tabs X H₀ O₀ M mu0 σ' H' e' → Fr σ env H σ' e' H' → D.nx σ' H'
  | .bk e' => ∀ σ' H', SV tabs X H₀ O₀ M mu0 σ' H' e' → Fr σ env H σ' e' H' → D.bk σ' H'
  | .ct e' => ∀ σ' H', SV tabs X H₀ O₀ M mu0 σ' H' e' → Fr σ env H σ' e' H' → D.ct σ' H'
  | .rt e' kd d => ∀ v σ' H', SV tabs X H₀ O₀ M mu0 σ' H' e' → Fr σ env H σ' e' H' → VR X.K (forb H₀ O₀) H₀ H' kd v d → D.rt v H'
  | .er c => ∀ C : Addr, X.mg c = some (Value.ref C) → ∀ σ' H', GrM M H₀ H' → W (Value.ref C) none σ' H'
theorem Post.fr {D : Ends} {oc : Oc} (h : Post tabs X W H₀ O₀ M mu0 σ env H D oc) (f : Fr σ env H σ2 env2 H2) : Post tabs X W H₀ O₀ M mu0 σ2 env2 H2 D oc := by
  cases oc with
  | nx e' => exact fun σ' H' s g => h σ' H' s (f.trans g)
  | bk e' => exact fun σ' H' s g => h σ' H' s (f.trans g)
  | ct e' => exact fun σ' H' s g => h σ' H' s (f.trans g)
  | rt e' kd d => exact fun v σ' H' s g => h v σ' H' s (f.trans g)
  | er c => exact h
theorem Post.err {D : Ends} {c : Str} (h : Post tabs X W H₀ O₀ M mu0 σ env H D (.er c)) (S : SV tabs X H₀ O₀ M mu0 σ2 H2 env2) : ErrOk X W σ2 H2 c := fun C hC H3 g => h C hC σ2 H3 (S.gr.trans g.any)
section
variable (ft k N tabs)
def SSt (sc : Scope) (s : S) (st : Stmt) : Prop := ∀ (X : Cx) (W : WX) (H₀ : Hp) (O₀ M : Addr → Prop) (mu0 : Nat → Addr → Prop) (σ : L2.St) (H : Hp) (env : Env1) (oc : Oc) (D : Ends),
  DC ft k N tabs W sc H₀ O₀ M X → SV tabs X H₀ O₀ M mu0 σ H env → evSt ft s env = some oc → Post tabs X W H₀ O₀ M mu0 σ env H D oc → SD X st D σ H
def SSl (sc : Scope) (s : SL) (st : List Stmt) : Prop := ∀ (X : Cx) (W : WX) (H₀ : Hp) (O₀ M : Addr → Prop) (mu0 : Nat → Addr → Prop) (σ : L2.St) (H : Hp) (env : Env1) (oc : Oc) (D : Ends),
  DC ft k N tabs W sc H₀ O₀ M X → SV tabs X H₀ O₀ M mu0 σ H env → evSl ft s env = some oc → Post tabs X W H₀ O₀ M mu0 σ env H D oc → SDs X st D σ H
end
theorem exO_inv {α : Type} {r : Ex α} {g : α → Option Oc} {oc : Oc} (h : exO r g = some oc) : (∃ c, r = some (.error c) ∧ oc = .er c) ∨ ∃ a, r = some (.ok a) ∧ g a = some oc := by
  cases r with
  | none => cases h
  | some r => cases r with
    | error c => exact .inl ⟨c, rfl, (Option.some.inj h).symm⟩
    | ok a => exact .inr ⟨a, rfl, h⟩
theorem map_inv {α β : Type} {o : Option α} {g : α → β} {b : β} (h : o.map g = some b) : ∃ a, o = some a ∧ g a = b := by
  cases o with
  | none => cases h
  | some a => exact ⟨a, rfl, Option.some.inj h⟩
/-- an expression that a statement begins with -/
theorem ES.st {x : R.X} {e : Expr} (h : ES ft k N tabs sc x e) {Dn : Ends} {oc : Oc} {g : Kd × D → Option Oc} {Q : VK} (C : DC ft k N tabs W sc H₀ O₀ M X) (S : SV tabs X H₀ O₀ M mu0 σ H env) (ev : exO (evE ft x env) g = some oc)
    (p : Post tabs X W H₀ O₀ M mu0 σ env H Dn oc) (q : ∀ kd d, g (kd, d) = some oc → ∀ v H2, Gr H H2 → VR X.K (Fbs H₀ O₀ σ env) H H2 kd v d → Q v H2) : SE X e σ H Q := by
  rcases exO_inv ev with ⟨c, e1, rfl⟩ | ⟨⟨kd, d⟩, e1, e2⟩
  · exact h X W _ σ H env _ _ (S.at C) e1 (fun _ z => by cases z) (fun c' z => by cases z; exact p.err S)
  · exact h X W _ σ H env _ _ (S.at C) e1 (fun p' z v H2 g2 vr => by cases z; exact q kd d e2 v H2 g2 vr) (fun _ z => by cases z)
theorem BS.st {x : R.X} {e : Expr} (h : BS ft k N tabs sc x e) {Dn : Ends} {oc : Oc} {g : Bool × D → Option Oc} {Q : VK} (C : DC ft k N tabs W sc H₀ O₀ M X) (S : SV tabs X H₀ O₀ M mu0 σ H env) (ev : exO (evB ft x env) g = some oc)
    (p : Post tabs X W H₀ O₀ M mu0 σ env H Dn oc) (q : ∀ f d, g (f, d) = some oc → ∀ v H2, Gr H H2 → Bw X.K H2 (Fbs H₀ O₀ σ env f) v d → Q v H2) : SE X e σ H Q := by
  rcases exO_inv ev with ⟨c, e1, rfl⟩ | ⟨⟨kd, d⟩, e1, e2⟩
  · exact h X W _ σ H env _ _ (S.at C) e1 (fun _ z => by cases z) (fun c' z => by cases z; exact p.err S)
  · exact h X W _ σ H env _ _ (S.at C) e1 (fun p' z v H2 g2 vr => by cases z; exact q kd d e2 v H2 g2 vr) (fun _ z => by cases z)
theorem DC.ndN (C : DC ft k N tabs W sc H₀ O₀ M X) : X.N.Nodup := by rw [C.gc.hN]; exact C.gc.nd
theorem name_at (C : DC ft k N tabs W sc H₀ O₀ M X) {i : Nat} {y : Str} (h : nameB N sc i y = true) : X.N[i]? = some y ∧ Loc X.env.scope y := by
  simp only [nameB, Bool.and_eq_true, decide_eq_true_eq] at h
  exact ⟨by rw [C.gc.hN]; exact h.1, by rw [C.sce]; exact asg_loc h.2⟩
def noComp : Expr → Bool
  | .ListComp _ _ _ _ => false
  | .SetComp _ _ _ _ => false
  | .DictComp _ _ _ _ _ => false
  | _ => true
theorem sw_false {e : Expr} {t : Option Expr} {l : Nat} {en : PySem.Env} (h : noComp e = true) : swapsWith e t l en = pure false := by
  cases e <;> first | rfl | cases h
theorem ss_set {i : Nat} {x : R.X} {y : Str} {e : Expr} {py pos : Pos} (hn : nameB N sc i y = true) (hc : noComp e = true) (he : ES ft k N tabs sc x e) : SSt ft k N tabs sc (.set i x) (.Assign [.Name y py] e pos) := by
  intro X W H₀ O₀ M mu0 σ H env oc D C S ev p
  obtain ⟨n1, n2⟩ := name_at C hn
  refine SD.of (ps_set (i := i) C.ndN n1 n2 pe_S (sw_false hc) (.inl (C.fn y))) ?_
  refine he.st C S ev p fun kd d e2 v H2 g vr => ?_
  obtain ⟨e1, e3, rfl⟩ := map_inv e2
  obtain ⟨S1, F1, _⟩ := S.put C g vr e3
  exact p _ _ S1 F1
theorem ss_setLc {i i0 : Nat} {src : XS} {c : XO} {x : R.X} {y z : Str} {elt iter : Expr} {ifs : List Expr} {scope : Scope} {py pz pc pos : Pos} (hn : nameB N sc i y = true) (hloc : locB sc y = true) (hk : sc.kind = .function) (hl : (py.line == pc.line) = true)
    (ha : (scope.names.any fun (n, k) => n == y && (k == .local || k == .cell)) = false) (hs : SS ft k N tabs sc src iter) (hns : noSet iter = true) (hb : blkC N sc scope [(z, i0)] = true) (hz : locB scope z = true)
    (hc : CS ft k N tabs scope c ifs) (he : ES ft k N tabs scope x elt) : SSt ft k N tabs sc (.set i (.lc i0 src c x)) (.Assign [.Name y py] (.ListComp elt [⟨.Name z pz, iter, ifs, 0⟩] scope pc) pos) := by
  intro X W H₀ O₀ M mu0 σ H env oc D C S ev p
  obtain ⟨n1, n2⟩ := name_at C hn
  have hNi : X.N[i0]? = some z := (C.gc.blkOk hb).ix (z, i0) List.mem_cons_self
  have hyl : X.env.scope.names.lookup y = some .local := C.gc.loc y hloc
  refine SD.of (ps_setLc (i := i) (own := [(z, i0)]) (g := gName i0) (te := teB X scope elt) (tt := ttB X scope ifs) C.gc.calm C.ndN n1 hyl (sw_true (by rw [C.sce]; exact hk) hyl hl ha) pi_S (C.gc.blkOk hb)
    (fun s H0 Ca cl fp => pg_name (i := i0) (by exact C.ndN) hNi (.inl ((C.gc.blk scope s H0 Ca cl fp).loc z hz)) (.inr ((C.gc.blk scope s H0 Ca cl fp).loc z hz)))
    (fun s H0 Ca cl fp => ⟨fun pins s1 σ H Q I h => (pts_S hc _).run pins s1 σ H Q I (h s H0 Ca cl fp)⟩)
    (fun s H0 Ca cl fp => ⟨fun pins s1 σ H Q I h => h s H0 Ca cl fp pins s1 I⟩) (fun x => by
      cases iter <;> first | rfl | cases hns)) ?_
  rcases exO_inv ev with ⟨c0, e1, rfl⟩ | ⟨⟨kd, d⟩, e1, e2⟩
  · exact lc_read hs hc he (S.at C) e1 (fun _ z => by cases z) (fun c' z => by cases z; exact p.err S)
  · refine lc_read hs hc he (S.at C) e1 (fun p' z v H2 g2 vr => ?_) (fun _ z => by cases z)
    cases z
    obtain ⟨e1, e3, rfl⟩ := map_inv e2
    obtain ⟨S1, F1, _⟩ := S.put C g2 vr e3
    exact p _ _ S1 F1
def noTup : Expr → Bool
  | .Tuple _ _ _ => false
  | _ => true
theorem ss_unp {is : List Nat} {x : R.X} {ts : List Expr} {e : Expr} {kt : Nat} {pt pos : Pos} (hn : tgsB N sc is ts = true) (hc : noTup e = true) (he : BS ft k N tabs sc x e) : SSt ft k N tabs sc (.unp is x) (.Assign [.Tuple ts kt pt] e pos) := by
  intro X W H₀ O₀ M mu0 σ H env oc D C S ev p
  obtain ⟨l1, l2⟩ := tgs_len (e := X.env) hn
  refine SD.of (ps_asg pe_S (pg_tup (n := is.length) C.gc.calm (pgs_names C hn) l1 l2) (by cases e <;> rfl) (by cases e <;> first | rfl | cases hc) rfl) ?_
  refine he.st C S ev p fun f d e2 v H2 g vr => ?_
  cases d with
  | tuple ds =>
    simp only at e2
    split at e2
    · rename_i hl
      obtain ⟨e1, e3, rfl⟩ := map_inv e2
      obtain ⟨a, vs, rfl, ht, r⟩ := vr.tuple
      have F0 : Fr σ env H σ env H2 := Fr.of_gr g
      exact ⟨a, vs, rfl, ht, by rw [r.length]; exact hl, gNs_run C (S.grow g) r e3 fun σ' S' F' => p _ _ S' (F0.trans F')⟩
    · cases e2
  | _ => cases e2
theorem RpK.put : ∀ {K : PySem.W.Frag} {H : Hp} {O : Addr → Prop} {kvs : List (Key × V)} {es : List (D × D)} {ky : Key} {v : V} {d : D}, RpK K H O kvs es → Rp K H O v d → RpK K H O (putK kvs ky v) (dputE es ky d) := by
  intro K H O kvs es ky v d r rv
  have any : ∀ {kvs : List (Key × V)} {es : List (D × D)}, RpK K H O kvs es → (kvs.any fun kv => decide (kv.1 = ky)) = (es.any fun e => decide (keyOf e.1 = some ky)) := by
    intro kvs es r
    induction kvs generalizing es with
    | nil => cases r; rfl
    | cons p kvs ih =>
      cases r with
      | cons h t =>
        rename_i k0 v0 d0 es0
        rw [List.any_cons, List.any_cons, ih t, keyOf_keyD]
        congr 1
        by_cases z : k0 = ky
        · simp [z]
        · simp [z]
  have mp : ∀ {kvs : List (Key × V)} {es : List (D × D)}, RpK K H O kvs es → RpK K H O (kvs.map fun kv => if kv.1 = ky then (kv.1, v) else kv) (es.map fun e => if keyOf e.1 = some ky then (e.1, d) else e) := by
    intro kvs es r
    induction kvs generalizing es with
    | nil => cases r; exact .nil
    | cons p kvs ih =>
      cases r with
      | cons h t =>
        rename_i k0 v0 d0 es0
        rw [List.map_cons, List.map_cons]
        simp only [keyOf_keyD]
        by_cases z : k0 = ky
        · rw [if_pos z, if_pos (by rw [z])]
          exact .cons rv (ih t)
        · rw [if_neg z, if_neg (fun q => z (Option.some.inj q))]
          exact .cons h (ih t)
  have app : ∀ {kvs : List (Key × V)} {es : List (D × D)}, RpK K H O kvs es → RpK K H O (kvs ++ [(ky, v)]) (es ++ [(keyD ky, d)]) := by
    intro kvs es r
    induction kvs generalizing es with
    | nil => cases r; exact .cons rv .nil
    | cons p kvs ih =>
      cases r with
      | cons h t => exact .cons h (ih t)
  unfold putK dputE
  rw [any r]
  split
  · exact mp r
  · exact app r
theorem ixN_set {α β : Type} {xs : List α} {ys : List β} {z : Int} {j : Nat} (hl : xs.length = ys.length) (h : ixN ys.length z = some j) : ixN xs.length z = some j := by rw [hl]; exact h
theorem name_pe (C : DC ft k N tabs W sc H₀ O₀ M X) {i : Nat} {y : Str} {py : Pos} (hn : slotB' N sc i y = true) : PE X (.Name y py) (tVar i) := by
  simp only [slotB', Bool.and_eq_true, decide_eq_true_eq, okName, Bool.not_eq_true'] at hn
  obtain ⟨⟨hN, hv⟩, ⟨h1, h2⟩, _⟩ := hn
  exact pe_var (i := i) (by rw [C.gc.hN]; exact hN) (C.gc.vis y hv) h1 h2
theorem isOw_inv {o : Option Slot} (h : isOw o = true) : ∃ n f d, o = some (.ow n f d) := by
  cases o with
  | none => cases h
  | some s => cases s <;> first | exact ⟨_, _, _, rfl⟩ | cases h
theorem isOwL_inv {o : Option Slot} (h : isOwL o = true) : ∃ n f xs, o = some (.ow n f (.list xs)) := by
  cases o with
  | none => cases h
  | some s =>
    cases s with
    | ow n f d => cases d <;> first | exact ⟨_, _, _, rfl⟩ | cases h
    | _ => cases h
theorem putK_len {kvs : List (Key × V)} {ky : Key} {v : V} : True := trivial
/-- what is put into an owned one -/
theorem put_less {K : PySem.W.Frag} {fb : FbOk H (Fbs H₀ O₀ σ env)} {f g : Bool} : (∀ a, Fbs H₀ O₀ σ env (f && g) a → Fbs H₀ O₀ σ env f a) ∧ (∀ a, Fbs H₀ O₀ σ env (f && g) a → Fbs H₀ O₀ σ env g a) := ⟨fb.up and_up.1, fb.up and_up.2⟩
theorem ss_sti {i : Nat} {ix x : R.X} {y : Str} {ie e : Expr} {py pt pos : Pos} (hn : slotB' N sc i y = true) (hs : noSl ie = true) (hi : BS ft k N tabs sc ix ie) (he : ES ft k N tabs sc x e) :
    SSt ft k N tabs sc (.sti i ix x) (.Assign [.Subscript (.Name y py) ie pt] e pos) := by
  intro X W H₀ O₀ M mu0 σ H env oc Dn C S ev0 p
  have sw : ∀ t l en, swapsWith e (some (.Subscript (.Name y py) ie t)) l en = pure false := by
    intro t l en
    cases e <;> rfl
  have pl : PS X (.Assign [.Subscript (.Name y py) ie pt] e pos) (tAsg (SE X e) (gSub (tVar i) (SE X ie) rSetL)) :=
    ps_asg pe_S (pg_sub (name_pe C hn) pe_S set_list (by intro v; cases ie <;> first | rfl | cases hs)) (sw pt pos.line X.env) (by cases e <;> rfl) rfl
  have ev0' : (if isOw env[i]? = true then exO (evE ft x env) fun q => exO (evB ft ix env) fun p => (stiE env i p.2 q.1 q.2).map .nx else none) = some oc := ev0
  split at ev0'
  · rename_i ho
    have ev := ev0'
    obtain ⟨n, f, d0, sl⟩ := isOw_inv ho
    rcases exO_inv ev with ⟨c, e1, rfl⟩ | ⟨⟨kd, d⟩, e1, e2⟩
    · refine SD.of pl (he X W _ σ H env _ _ (S.at C) e1 (fun _ z => by cases z) (fun c' z => by cases z; exact p.err S))
    · rcases exO_inv e2 with ⟨c, e3, rfl⟩ | ⟨⟨fi, di⟩, e3, e4⟩
      · refine SD.of pl (he X W _ σ H env _ _ (S.at C) e1 (fun p' z v H2 g2 vr => ?_) (fun _ z => by cases z))
        obtain ⟨a, s1, _⟩ := S.ev.ow i n f d0 sl
        exact ⟨_, s1, hi X W _ σ H2 env _ _ ((S.grow g2).at C) e3 (fun _ z => by cases z) (fun c' z => by cases z; exact p.err (S.grow g2))⟩
      · obtain ⟨en2, e5, rfl⟩ := map_inv e4
        unfold stiE at e5
        rw [sl] at e5
        cases d0 with
        | list xs =>
          cases di with
          | int z =>
            simp only at e5
            cases ej : ixN xs.length z with
            | none => rw [ej] at e5; cases e5
            | some j =>
              rw [ej] at e5; cases e5
              refine SD.of pl (he X W _ σ H env _ _ (S.at C) e1 (fun p' zz v H2 g2 vr => ?_) (fun _ zz => by cases zz))
              cases zz
              obtain ⟨a, s1, _⟩ := S.ev.ow i n f _ sl
              refine ⟨_, s1, hi X W _ σ H2 env _ _ ((S.grow g2).at C) e3 (fun p' zz u H4 g4 vr4 => ?_) (fun _ zz => by cases zz)⟩
              cases zz
              have S4 := S.grow (g2.trans g4)
              obtain ⟨b, s2, ow⟩ := S4.ev.ow i n f _ sl
              rw [s1] at s2; cases s2
              cases ow with
              | lst ea ra =>
                rename_i vs
                have fb := S4.fb C
                have hj : ixN vs.length z = some j := ixN_set ra.length ej
                refine ⟨a, vs, z, j, rfl, vr4.int, ea, hj, ?_⟩
                have hw : OwAt X.K (upd H4 a (.lst (vs.set j v))) (Fbs H₀ O₀ σ env (f && kd.fr)) a (.list (xs.set j d)) := by
                  refine .lst upd_same ?_
                  have g5 : GrM (fun b => b = a) H4 (upd H4 a (.lst (vs.set j v))) := GrM.put ea rfl (fun _ z => by cases z) (fun _ z => by cases z) (fun _ _ z => by cases z)
                  refine RpA.keep (GrM.keeps g5 (fun b z => by rw [z]; exact .inr ⟨i, n, f, _, sl, s1⟩) fun b z y => absurd z y) (RpA.set j ((vr.1.gr g4).less (fb.up and_up.2)) (ra.less (fb.up and_up.1)))
                obtain ⟨S5, F5⟩ := S4.mut C sl s1 hw
                exact p _ _ S5 ((Fr.of_gr (g2.trans g4)).trans F5)
          | _ => cases e5
        | dict es =>
          simp only at e5
          cases ek : keyOf di with
          | none => rw [ek] at e5; cases e5
          | some ky =>
            rw [ek] at e5
            replace e5 : (if lenOk es.length = true then some (env.set i (.ow n (f && kd.fr) (.dict (dputE es ky d)))) else none) = some en2 := e5
            split at e5
            · rename_i hlen
              cases e5
              refine SD.of (ps_dput (by have := hu_of' C.gc.room; omega) (name_pe C hn) (pe_S (e := ie)) (pe_S (e := e)) (sw pt pos.line X.env)) (he X W _ σ H env _ _ (S.at C) e1 (fun p' zz v H2 g2 vr => ?_) (fun _ zz => by cases zz))
              cases zz
              obtain ⟨a, s1, _⟩ := S.ev.ow i n f _ sl
              refine ⟨_, s1, hi X W _ σ H2 env _ _ ((S.grow g2).at C) e3 (fun p' zz u H4 g4 vr4 => ?_) (fun _ zz => by cases zz)⟩
              cases zz
              have S4 := S.grow (g2.trans g4)
              obtain ⟨b, s2, ow⟩ := S4.ev.ow i n f _ sl
              rw [s1] at s2; cases s2
              cases ow with
              | dct ea ra =>
                rename_i kvs
                have fb := S4.fb C
                refine ⟨a, _, rfl, by rw [keyOf_V ek vr4]; exact DPut.k ea (by rw [ra.length]; exact lenOk_lt hlen), ?_⟩
                have hw : OwAt X.K (upd H4 a (.dK (putK kvs ky v))) (Fbs H₀ O₀ σ env (f && kd.fr)) a (.dict (dputE es ky d)) := by
                  refine .dct upd_same ?_
                  have g5 : GrM (fun b => b = a) H4 (upd H4 a (.dK (putK kvs ky v))) := GrM.put ea rfl (fun _ z => by cases z) (fun _ z => by cases z) (fun _ _ z => by cases z)
                  refine RpK.keep (GrM.keeps g5 (fun b z => by rw [z]; exact .inr ⟨i, n, f, _, sl, s1⟩) fun b z y => absurd z y) (RpK.put (ra.less (fb.up and_up.1)) ((vr.1.gr g4).less (fb.up and_up.2)))
                obtain ⟨S5, F5⟩ := S4.mut C sl s1 hw
                exact p _ _ S5 ((Fr.of_gr (g2.trans g4)).trans F5)
            · cases e5
        | _ => cases e5
  · cases ev0'
/-! ### methods that change a list -/
theorem meth_few {e : Expr} {cpos : Pos} {en : PySem.Env} (h : starNo e = true) : ((backTo cpos (starEach (e :: []) en)).all (fun x => !x.1) && (backToKw cpos (keywordEach [] en)).all (fun x => x.1.isSome)
      && decide ((e :: ([] : List Expr)).length + ([] : List Keyword).length + (if ([] : List Keyword).isEmpty then 0 else 1) < 30)) = true := by
  rw [star_eq h]; rfl
theorem ss_app {i : Nat} {x : R.X} {y : Str} {e : Expr} {py apos cpos pos : Pos} (hn : slotB' N sc i y = true) (hs : starNo e = true) (hl : (apos.endLine == cpos.line) = true) (he : ES ft k N tabs sc x e) :
    SSt ft k N tabs sc (.app i x) (.Expr (.Call (.Attribute (.Name y py) "append" apos) [e] [] cpos) pos) := by
  intro X W H₀ O₀ M mu0 σ H env oc Dn C S ev0 p
  have ev0' : (if isOwL env[i]? = true then exO (evE ft x env) fun q => (appE env i q.1 q.2).map .nx else none) = some oc := ev0
  split at ev0'
  · rename_i ho
    have ev := ev0'
    obtain ⟨n, f, xs, sl⟩ := isOwL_inv ho
    obtain ⟨a, s1, ow0⟩ := S.ev.ow i n f _ sl
    refine SD.of (ps_expr (pe_bm PySem.F.plainAttrs_list PySem.F.slot_list_append PySem.F.type_list_append mt_append (name_pe C hn) (pa_cons pe_S pa_nil (star_eq hs)) rfl (meth_few hs) hl (star_eq hs) rfl) rfl) ?_
    refine ⟨_, s1, ?_, ?_⟩
    · cases ow0 with
      | lst ea ra => exact .inl ⟨rfl, _, SqL.of ea⟩
    · refine he.st C S ev p fun kd d e2 v H2 g vr => ?_
      obtain ⟨en2, e5, rfl⟩ := map_inv e2
      unfold appE at e5
      rw [sl] at e5
      simp only at e5
      split at e5
      · rename_i hlen
        cases e5
        have S4 := S.grow g
        obtain ⟨b, s2, ow⟩ := S4.ev.ow i n f _ sl
        rw [s1] at s2; cases s2
        cases ow with
        | lst ea ra =>
          rename_i vs
          have fb := S4.fb C
          refine ⟨a, vs, v, rfl, rfl, ea, by rw [ra.length]; exact lenOk_lt hlen, ?_⟩
          have hw : OwAt X.K (upd H2 a (.lst (vs ++ [v]))) (Fbs H₀ O₀ σ env (f && kd.fr)) a (.list (xs ++ [d])) := by
            refine .lst upd_same ?_
            have g5 : GrM (fun b => b = a) H2 (upd H2 a (.lst (vs ++ [v]))) := GrM.put ea rfl (fun _ z => by cases z) (fun _ z => by cases z) (fun _ _ z => by cases z)
            exact RpA.keep (GrM.keeps g5 (fun b z => by rw [z]; exact .inr ⟨i, n, f, _, sl, s1⟩) fun b z y => absurd z y) (RpA.append (ra.less (fb.up and_up.1)) (.cons (vr.1.less (fb.up and_up.2)) .nil))
          obtain ⟨S5, F5⟩ := S4.mut C sl s1 hw
          exact p _ _ S5 ((Fr.of_gr g).trans F5)
      · cases e5
  · cases ev0'
theorem ss_rev {i : Nat} {y : Str} {py apos cpos pos : Pos} (hn : slotB' N sc i y = true) (hl : (apos.endLine == cpos.line) = true) :
    SSt ft k N tabs sc (.rev i) (.Expr (.Call (.Attribute (.Name y py) "reverse" apos) [] [] cpos) pos) := by
  intro X W H₀ O₀ M mu0 σ H env oc Dn C S ev p
  obtain ⟨en2, e5, rfl⟩ := map_inv (show (revE env i).map Oc.nx = some oc from ev)
  unfold revE at e5
  split at e5
  · rename_i n f xs sl
    cases e5
    obtain ⟨a, s1, ow⟩ := S.ev.ow i n f _ sl
    cases ow with
    | lst ea ra =>
      refine SD.of (ps_expr (pe_bm0 PySem.F.plainAttrs_list PySem.F.slot_list_reverse PySem.F.type_list_reverse mt_reverse (name_pe C hn) rfl hl) rfl) ?_
      refine ⟨_, s1, .inl ⟨rfl, _, SqL.of ea⟩, a, _, rfl, rfl, ea, ?_⟩
      rename_i vs
      have hw : OwAt X.K (upd H a (.lst vs.reverse)) (Fbs H₀ O₀ σ env f) a (.list xs.reverse) := by
        refine .lst upd_same ?_
        have g5 : GrM (fun b => b = a) H (upd H a (.lst vs.reverse)) := GrM.put ea rfl (fun _ z => by cases z) (fun _ z => by cases z) (fun _ _ z => by cases z)
        exact RpA.keep (GrM.keeps g5 (fun b z => by rw [z]; exact .inr ⟨i, n, f, _, sl, s1⟩) fun b z y => absurd z y) ra.reverse
      obtain ⟨S5, F5⟩ := S.mut C sl s1 hw
      exact p _ _ S5 F5
  · cases e5
theorem RpA.dropLast {K : PySem.W.Frag} {O : Addr → Prop} {vs : List V} {ds : List R.D} (r : RpA K H O vs ds) : RpA K H O vs.dropLast ds.dropLast := by
  rw [List.dropLast_eq_take, List.dropLast_eq_take, r.length]
  exact r.take _
theorem ss_pop {i : Nat} {y : Str} {py apos cpos pos : Pos} (hn : slotB' N sc i y = true) (hl : (apos.endLine == cpos.line) = true) :
    SSt ft k N tabs sc (.pop i) (.Expr (.Call (.Attribute (.Name y py) "pop" apos) [] [] cpos) pos) := by
  intro X W H₀ O₀ M mu0 σ H env oc Dn C S ev p
  obtain ⟨en2, e5, rfl⟩ := map_inv (show (popE env i).map Oc.nx = some oc from ev)
  unfold popE at e5
  split at e5
  · rename_i n f xs sl
    split at e5
    · cases e5
    · rename_i hx
      cases e5
      obtain ⟨a, s1, ow⟩ := S.ev.ow i n f _ sl
      cases ow with
      | lst ea ra =>
        rename_i vs
        have hv : 0 < vs.length := by
          rw [ra.length]
          cases xs with
          | nil => exact absurd rfl hx
          | cons _ _ => simp
        refine SD.of (ps_expr (pe_bm0 PySem.F.plainAttrs_list PySem.F.slot_list_pop PySem.F.type_list_pop mt_pop (name_pe C hn) rfl hl) rfl) ?_
        refine ⟨_, s1, .inl ⟨rfl, _, SqL.of ea⟩, a, vs, vs[vs.length - 1], rfl, rfl, ea, List.getElem?_eq_getElem (by omega), ?_⟩
        have hw : OwAt X.K (upd H a (.lst vs.dropLast)) (Fbs H₀ O₀ σ env f) a (.list xs.dropLast) := by
          refine .lst upd_same ?_
          have g5 : GrM (fun b => b = a) H (upd H a (.lst vs.dropLast)) := GrM.put ea rfl (fun _ z => by cases z) (fun _ z => by cases z) (fun _ _ z => by cases z)
          exact RpA.keep (GrM.keeps g5 (fun b z => by rw [z]; exact .inr ⟨i, n, f, _, sl, s1⟩) fun b z y => absurd z y) ra.dropLast
        obtain ⟨S5, F5⟩ := S.mut C sl s1 hw
        exact p _ _ S5 F5
  · cases e5
end R
namespace R
open PySem PySem.Spec PyProof.Rows L2
variable {ft : FT} {k : Nat} {N : List Str} {tabs : List Addr} {W : WX} {sc : Scope} {H₀ : Hp} {O₀ M : Addr → Prop} {mu0 : Nat → Addr → Prop} {X : Cx} {σ σ' σ2 : L2.St} {H H' H1 H2 : Hp} {env env' env2 : Env1}
theorem ss_ext {i : Nat} {x : R.X} {y : Str} {e : Expr} {py apos cpos pos : Pos} (hn : slotB' N sc i y = true) (hs : starNo e = true) (hl : (apos.endLine == cpos.line) = true) (he : ES ft k N tabs sc x e) :
    SSt ft k N tabs sc (.xt i x) (.Expr (.Call (.Attribute (.Name y py) "extend" apos) [e] [] cpos) pos) := by
  intro X W H₀ O₀ M mu0 σ H env oc Dn C S ev0 p
  have ev0' : (if isOwL env[i]? = true then exO (evE ft x env) fun q => (extE env i q.1 q.2).map .nx else none) = some oc := ev0
  split at ev0'
  · rename_i ho
    have ev := ev0'
    obtain ⟨n, f, xs, sl⟩ := isOwL_inv ho
    obtain ⟨a, s1, ow0⟩ := S.ev.ow i n f _ sl
    refine SD.of (ps_expr (pe_bm PySem.F.plainAttrs_list PySem.F.slot_list_extend PySem.F.type_list_extend mt_extT (name_pe C hn) (pa_cons pe_S pa_nil (star_eq hs)) rfl (meth_few hs) hl (star_eq hs) rfl) rfl) ?_
    refine ⟨_, s1, ?_, ?_⟩
    · cases ow0 with
      | lst ea ra => exact .inl ⟨rfl, _, SqL.of ea⟩
    · refine he.st C S ev p fun kd d e2 v H2 g vr => ?_
      obtain ⟨en2, e5, rfl⟩ := map_inv e2
      unfold extE at e5
      rw [sl] at e5
      cases d with
      | tuple ds =>
        simp only at e5
        split at e5
        · rename_i hlen
          cases e5
          have S4 := S.grow g
          obtain ⟨b, s2, ow⟩ := S4.ev.ow i n f _ sl
          rw [s1] at s2; cases s2
          cases ow with
          | lst ea ra =>
            rename_i vs
            have r0 := vr.1
            cases r0 with
            | tup ht t =>
              rename_i c zs
              have fb := S4.fb C
              refine ⟨a, c, vs, zs, rfl, rfl, ea, ht, ?_, ?_⟩
              · rw [ra.length, t.length]
                exact Nat.le_of_lt (lenOk_lt hlen)
              have hw : OwAt X.K (upd H2 a (.lst (vs ++ zs))) (Fbs H₀ O₀ σ env (f && kd.fr)) a (.list (xs ++ ds)) := by
                refine .lst upd_same ?_
                have g5 : GrM (fun b => b = a) H2 (upd H2 a (.lst (vs ++ zs))) := GrM.put ea rfl (fun _ z => by cases z) (fun _ z => by cases z) (fun _ _ z => by cases z)
                exact RpA.keep (GrM.keeps g5 (fun b z => by rw [z]; exact .inr ⟨i, n, f, _, sl, s1⟩) fun b z y => absurd z y) (RpA.append (ra.less (fb.up and_up.1)) (t.less (fb.up and_up.2)))
              obtain ⟨S5, F5⟩ := S4.mut C sl s1 hw
              exact p _ _ S5 ((Fr.of_gr g).trans F5)
        · cases e5
      | _ => cases e5
  · cases ev0'
theorem ss_aug {i : Nat} {c : Int} {y : Str} {j : Nat} {py pc pos : Pos} (hn : nameB N sc i y = true) : SSt ft k N tabs sc (.aug i c) (.AugAssign (.Name y py) .Add (.Constant (.int c) j pc) pos) := by
  intro X W H₀ O₀ M mu0 σ H env oc D C S ev p
  obtain ⟨n1, n2⟩ := name_at C hn
  obtain ⟨e1, e3, rfl⟩ := map_inv (show (augE env i c).map Oc.nx = some oc from ev)
  unfold augE at e3
  split at e3
  · rename_i f a sl
    obtain ⟨v, s1, r⟩ := S.ev.sh i f _ sl
    have hv : v = .int a := Bw.int (.sh r)
    subst hv
    refine SD.of (ps_aug (i := i) C.ndN n1 n2 pe_int ip_add (.inl (C.fn y))) ?_
    obtain ⟨S3, F3, _⟩ := S.put C (H2 := H) (v := V.int (a + c)) GrM.refl (VR.al (.int (a + c))) e3
    exact ⟨_, s1, a, c, rfl, rfl, p _ _ S3 F3⟩
  · cases e3
end R
namespace R
open PySem PySem.Spec PyProof.Rows L2
variable {ft : FT} {k : Nat} {N : List Str} {tabs : List Addr} {W : WX} {sc : Scope} {H₀ : Hp} {O₀ M : Addr → Prop} {mu0 : Nat → Addr → Prop} {X : Cx} {σ σ' σ2 : L2.St} {H H' H1 H2 : Hp} {env env' env2 : Env1}
theorem ss_pass {pos : Pos} : SSt ft k N tabs sc .pass (.Pass pos) := by
  intro X W H₀ O₀ M mu0 σ H env oc Dn C S ev p
  cases ev
  exact SD.of ps_pass (p σ H S Fr.refl)
theorem ss_brk {pos : Pos} : SSt ft k N tabs sc .brk (.Break pos) := by
  intro X W H₀ O₀ M mu0 σ H env oc Dn C S ev p
  cases ev
  exact SD.of ps_break (p σ H S Fr.refl)
theorem ss_cont {pos : Pos} : SSt ft k N tabs sc .cont (.Continue pos) := by
  intro X W H₀ O₀ M mu0 σ H env oc Dn C S ev p
  cases ev
  exact SD.of ps_continue (p σ H S Fr.refl)
theorem ss_ife {c : R.X} {a b : SL} {ec : Expr} {sa sb : List Stmt} {pos : Pos} (hc : TS' ft k N tabs sc c ec) (ha : SSl ft k N tabs sc a sa) (hb : SSl ft k N tabs sc b sb) : SSt ft k N tabs sc (.ife c a b) (.If ec sa sb pos) := by
  intro X W H₀ O₀ M mu0 σ H env oc Dn C S ev p
  refine SD.of (ps_if pt_S pss_S pss_S) ?_
  rcases exO_inv ev with ⟨c0, e1, rfl⟩ | ⟨t, e1, e2⟩
  · exact hc X W _ σ H env _ _ (S.at C) e1 (fun _ z => by cases z) (fun c' z => by cases z; exact p.err S)
  · refine hc X W _ σ H env _ _ (S.at C) e1 (fun p' z H2 g => ?_) (fun _ z => by cases z)
    cases z
    have p2 := p.fr (Fr.of_gr g : Fr σ env H σ env H2)
    cases t with
    | true => exact iteT (ha X W _ _ _ _ σ H2 env oc Dn C (S.grow g) e2 p2)
    | false => exact iteF (hb X W _ _ _ _ σ H2 env oc Dn C (S.grow g) e2 p2)
theorem sl_nil : SSl ft k N tabs sc .nil [] := by
  intro X W H₀ O₀ M mu0 σ H env oc Dn C S ev p
  cases ev
  exact SDs.of pss_nil (p σ H S Fr.refl)
theorem seqO_inv {r : Option Oc} {g : Env1 → Option Oc} {oc : Oc} (h : seqO r g = some oc) : (∃ e, r = some (.nx e) ∧ g e = some oc) ∨ (r = some oc ∧ ∀ e, oc ≠ .nx e) := by
  cases r with
  | none => cases h
  | some o =>
    cases o with
    | nx e => exact .inl ⟨e, rfl, h⟩
    | bk e => cases h; exact .inr ⟨rfl, fun _ z => by cases z⟩
    | ct e => cases h; exact .inr ⟨rfl, fun _ z => by cases z⟩
    | rt e kd d => cases h; exact .inr ⟨rfl, fun _ z => by cases z⟩
    | er c => cases h; exact .inr ⟨rfl, fun _ z => by cases z⟩
theorem sl_cons {s : R.S} {l : SL} {st : Stmt} {sts : List Stmt} (hs : SSt ft k N tabs sc s st) (hl : SSl ft k N tabs sc l sts) : SSl ft k N tabs sc (.cons s l) (st :: sts) := by
  intro X W H₀ O₀ M mu0 σ H env oc Dn C S ev p
  refine SDs.of (pss_cons ps_S pss_S) ?_
  rcases seqO_inv (show seqO (evSt ft s env) (fun e => evSl ft l e) = some oc from ev) with ⟨e, e1, e2⟩ | ⟨e1, e2⟩
  · exact hs X W _ _ _ _ σ H env _ _ C S e1 fun σ' H' S' F' => hl X W _ _ _ _ σ' H' e oc Dn C S' e2 (p.fr F')
  · refine hs X W _ _ _ _ σ H env _ _ C S e1 ?_
    cases oc with
    | nx e => exact absurd rfl (e2 e)
    | bk e' => exact p
    | ct e' => exact p
    | rt e' kd d => exact p
    | er c => exact p
theorem sl_frz {i : Nat} {l : SL} {sts : List Stmt} (hl : SSl ft k N tabs sc l sts) : SSl ft k N tabs sc (.cons (.frz i) l) sts := by
  intro X W H₀ O₀ M mu0 σ H env oc Dn C S ev p
  rcases seqO_inv (show seqO ((frzE env i).map Oc.nx) (fun e => evSl ft l e) = some oc from ev) with ⟨e, e1, e2⟩ | ⟨e1, e2⟩
  · obtain ⟨e', e3, e4⟩ := map_inv e1
    cases e4
    obtain ⟨S2, F2⟩ := S.frz C e3
    exact hl X W _ _ _ _ σ H _ oc Dn C S2 e2 (p.fr F2)
  · obtain ⟨e', e3, e4⟩ := map_inv e1
    exact absurd e4.symm (e2 e')
/-! ### loops -/
def SrcV (X : Cx) (H₀ : Hp) (O₀ : Addr → Prop) (σ : L2.St) (env : Env1) (H : Hp) (f : Bool) (ds : List R.D) (J : It) : Prop :=
  ∃ (n : Nat) (G : Hp → Prop) (Y : Nat → Hp → V → Hp → Prop), Walk J n G Y ∧ n = ds.length ∧ (∀ H', GrM (Own σ env) H H' → G H') ∧
    ∀ i H1 x H2, i < n → Y i H1 x H2 → H2 = H1 ∧ ∃ d, ds[i]? = some d ∧ Rp X.K H (Fbs H₀ O₀ σ env f) x d
def SSv (ft : FT) (k : Nat) (N : List Str) (tabs : List Addr) (sc : Scope) (src : XS) (iter : Expr) : Prop := ∀ (X : Cx) (W : WX) (H₀ : Hp) (O₀ M : Addr → Prop) (mu0 : Nat → Addr → Prop) (σ : L2.St) (H : Hp) (env : Env1) (r : Except Str (Bool × List R.D)) (tg : Expr) (Q : It → Hp → Prop),
  DC ft k N tabs W sc H₀ O₀ M X → SV tabs X H₀ O₀ M mu0 σ H env → evSv ft src env = some r → (∀ q, r = .ok q → ∀ J H2, Gr H H2 → SrcV X H₀ O₀ σ env H2 q.1 q.2 J → Q J H2) → (∀ c, r = .error c → ErrOk X W σ H c) → R.SI X tg iter σ H Q
theorem ssv_r {a : R.X} {x : Str} {e : Expr} {p pos : Pos} (hg : gnB sc "range" x = true) (hs : starNo e = true) (ha : ES ft k N tabs sc a e) : SSv ft k N tabs sc (.r a) (.Call (.Name x p) [e] [] pos) := by
  intro X W H₀ O₀ M mu0 σ H env r tg Q C S ev q er
  have A := S.at C
  obtain ⟨rfl, hgl, hd, _⟩ := gn_inv hg
  refine SI.of (pi_range1 (A.gc.glb _ hgl) (A.gc.bi _ (by decide +kernel)) (pa_cons pe_S pa_nil (star_eq hs)) (star_eq hs)) ?_
  rcases bnd_inv ev with ⟨c, e1, rfl⟩ | ⟨⟨kd, d⟩, e1, e2⟩
  · exact ha X W _ σ H env _ _ A e1 (fun _ z => by cases z) (errTo er)
  · refine ha X W _ σ H env _ _ A e1 (fun p z v H2 g vr => ?_) (fun _ z => by cases z)
    cases z
    rcases bnd_inv e2 with ⟨c, e3, rfl⟩ | ⟨l, e3, e4⟩
    · obtain ⟨_, _, z⟩ := lift_inv e3
      cases z
    · cases e4
      obtain ⟨l2, e5, z⟩ := lift_inv e3
      cases z
      cases d with
      | int i =>
        simp only [rangeE] at e5
        split at e5
        · rename_i c
          cases e5
          have c' : -(2 ^ 62) ≤ i ∧ i < 2 ^ 62 := of_decide_eq_true c
          have ev : v = .int i := Bw.int (.sh vr.1)
          refine ⟨i, by rw [ev], c'.1, c'.2, q _ rfl _ H2 g ⟨i.toNat, _, _, walk_range, by simp, fun _ _ => trivial, fun j H1 x H3 hj y => ?_⟩⟩
          obtain ⟨y1, y2⟩ := y
          refine ⟨y1, .int (j : Nat), by simp [hj], ?_⟩
          rw [y2]
          show Rp _ _ _ (.int (0 + (j : Int))) _
          rw [Int.zero_add]
          exact .int _
        · cases e5
      | _ => cases e5
theorem ssv_l {a : R.X} {e : Expr} (ha : ES ft k N tabs sc a e) : SSv ft k N tabs sc (.l a) e := by
  intro X W H₀ O₀ M mu0 σ H env r tg Q C S ev q er
  have A := S.at C
  rcases bnd_inv ev with ⟨c, e1, rfl⟩ | ⟨⟨kd, d⟩, e1, e2⟩
  · exact SI.of (pi_list pe_S) (ha X W _ σ H env _ _ A e1 (fun _ z => by cases z) (errTo er))
  · rcases bnd_inv e2 with ⟨c, e3, rfl⟩ | ⟨l, e3, e4⟩
    · obtain ⟨_, _, z⟩ := lift_inv e3
      cases z
    · cases e4
      obtain ⟨l2, e5, z⟩ := lift_inv e3
      cases z
      cases d with
      | list xs =>
        cases e5
        refine SI.of (pi_list pe_S) (ha X W _ σ H env _ _ A e1 (fun p z v H2 g vr => ?_) (fun _ z => by cases z))
        cases z
        have r0 := vr.1
        cases r0 with
        | lst hl hn t =>
          rename_i b vs
          refine ⟨b, rfl, ⟨vs, .inl hl⟩, q _ rfl _ H2 g ⟨vs.length, _, _, walk_list (xs := vs), t.length, fun H' g' => .inl (g'.rd hl (fun z => hn (.inr z)) (fun _ z => by cases z)), fun j H1 x H3 hj y => ?_⟩⟩
          obtain ⟨y1, y2⟩ := y
          obtain ⟨dd, e6, e7⟩ := t.getV y2
          exact ⟨y1, dd, e6, e7⟩
      | tuple xs =>
        cases e5
        refine SI.of (pi_tup pe_S) (ha X W _ σ H env _ _ A e1 (fun p z v H2 g vr => ?_) (fun _ z => by cases z))
        cases z
        have r0 := vr.1
        cases r0 with
        | tup hl t =>
          rename_i b vs
          refine ⟨b, rfl, ⟨vs, hl⟩, q _ rfl _ H2 g ⟨vs.length, _, _, walk_tup (xs := vs), t.length, fun H' g' => g'.seqT hl, fun j H1 x H3 hj y => ?_⟩⟩
          obtain ⟨y1, y2⟩ := y
          obtain ⟨dd, e6, e7⟩ := t.getV y2
          exact ⟨y1, dd, e6, e7⟩
      | _ => cases e5
/-- a loop, by what its target does -/
theorem loop_run {bind : Env1 → R.D → Option Env1} {b : SL} {body : List Stmt} {iter tg : Expr} {g : TG} {oc : Oc} {Dn : Ends} {f : Bool} {ds : List R.D} {J : It} (C : DC ft k N tabs W sc H₀ O₀ M X) (S : SV tabs X H₀ O₀ M mu0 σ H env) (hb : SSl ft k N tabs sc b body)
    (hg : ∀ (σ' : L2.St) (H' : Hp) (env' env2 : Env1) (x : V) (d : R.D) (Q : L2.St → Hp → Prop), SV tabs X H₀ O₀ M mu0 σ' H' env' → Rp X.K H' (Fbs H₀ O₀ σ' env' f) x d → bind env' d = some env2 →
      (∀ σ2, SV tabs X H₀ O₀ M mu0 σ2 H' env2 → Fr σ' env' H' σ2 env2 H' → Q σ2 H') → g x σ' H' Q)
    (sa : SrcV X H₀ O₀ σ env H f ds J) (ev : loopS bind (fun e => evSl ft b e) ds env = some oc) (p : Post tabs X W H₀ O₀ M mu0 σ env H Dn oc) :
    ∃ W : Nat → Nat → L2.St → Hp → Prop, (∃ m, W 0 m σ H) ∧ ∀ i m σ H, W i m σ H →
      (J.stop i H ∧ Dn.nx σ H) ∨ (J.go i H ∧ ∃ N : L2.St → Hp → Prop, (∀ σ' H', N σ' H' → ∃ m', m' < m ∧ W (i + 1) m' σ' H') ∧ ∀ x H', J.yld i H x H' → g x σ H' fun σ2 H2 => SDs X body { Dn with nx := N, ct := N, bk := Dn.nx } σ2 H2) := by
  obtain ⟨n, G, Y, w, hn, hG, hY⟩ := sa
  subst hn
  refine for_it w (fun j σ' H' => ∃ ej, SV tabs X H₀ O₀ M mu0 σ' H' ej ∧ Fr σ env H σ' ej H' ∧ loopS bind (fun e => evSl ft b e) (ds.drop j) ej = some oc) ⟨env, S, Fr.refl, ev⟩ (fun j σ' H' _ q => ?_) (fun j x σ' H' Hx hj q hy => ?_) (fun σ' H' q => ?_)
  · obtain ⟨ej, _, F, _⟩ := q
    exact hG H' F.gr
  · obtain ⟨ej, Sj, Fj, evj⟩ := q
    obtain ⟨rfl, d, ed, rd⟩ := hY j H' x Hx hj hy
    have edr : ds.drop j = d :: ds.drop (j + 1) := by
      rw [List.drop_eq_getElem_cons hj]
      congr 1
      rw [List.getElem?_eq_getElem hj] at ed
      exact Option.some.inj ed
    rw [edr] at evj
    simp only [loopS] at evj
    cases e1 : bind ej d with
    | none => rw [e1] at evj; cases evj
    | some e2 =>
      rw [e1] at evj
      simp only at evj
      refine hg σ' Hx ej e2 x d _ Sj (rd.keep (Fj.keep f)) e1 fun σ2 S2 F2 => ?_
      have F12 := Fj.trans F2
      cases e3 : evSl ft b e2 with
      | none => rw [e3] at evj; cases evj
      | some o =>
        rw [e3] at evj
        cases o with
        | nx e4 => exact hb X W _ _ _ _ σ2 Hx e2 _ _ C S2 e3 fun σ3 H3 S3 F3 => ⟨e4, S3, F12.trans F3, evj⟩
        | ct e4 => exact hb X W _ _ _ _ σ2 Hx e2 _ _ C S2 e3 fun σ3 H3 S3 F3 => ⟨e4, S3, F12.trans F3, evj⟩
        | bk e4 =>
          cases evj
          exact hb X W _ _ _ _ σ2 Hx e2 _ _ C S2 e3 fun σ3 H3 S3 F3 => p σ3 H3 S3 (F12.trans F3)
        | rt e4 kd d2 =>
          cases evj
          exact hb X W _ _ _ _ σ2 Hx e2 _ _ C S2 e3 fun v σ3 H3 S3 F3 vr => p v σ3 H3 S3 (F12.trans F3) vr
        | er c =>
          cases evj
          exact hb X W _ _ _ _ σ2 Hx e2 _ _ C S2 e3 p
  · obtain ⟨ej, Sj, Fj, evj⟩ := q
    rw [List.drop_length] at evj
    cases evj
    exact p σ' H' Sj Fj
theorem fset {iter : Expr} {en : PySem.Env} (h : noSet iter = true) : ∀ x, foldedSetIterable iter en x = pure x := by
  intro x
  cases iter <;> first | rfl | cases h
theorem ss_for1 {i : Nat} {src : XS} {b : SL} {y : Str} {iter : Expr} {body : List Stmt} {py pos : Pos} (hn : nameB N sc i y = true) (hns : noSet iter = true) (hs : SSv ft k N tabs sc src iter) (hb : SSl ft k N tabs sc b body) :
    SSt ft k N tabs sc (.for1 i src b) (.For (.Name y py) iter body [] pos) := by
  intro X W H₀ O₀ M mu0 σ H env oc Dn C S ev p
  obtain ⟨n1, n2⟩ := name_at C hn
  refine SD.of (ps_for C.po C.gc.calm pi_S (pg_name (i := i) C.ndN n1 n2 (.inl (C.fn y))) pss_S (fset hns)) ?_
  rcases exO_inv ev with ⟨c, e1, rfl⟩ | ⟨⟨f, ds⟩, e1, e2⟩
  · exact hs X W _ _ _ _ σ H env _ _ _ C S e1 (fun _ z => by cases z) (fun c' z => by cases z; exact p.err S)
  · refine hs X W _ _ _ _ σ H env _ _ _ C S e1 (fun p' z J H2 g sa => ?_) (fun _ z => by cases z)
    cases z
    refine loop_run (tg := .Name y py) (iter := iter) C (S.grow g) hb (fun σ' H' e' e2 x d Q S' r hp q => ?_) sa e2 (p.fr (Fr.of_gr g : Fr σ env H σ env H2))
    obtain ⟨S3, F3, _⟩ := S'.put C (H2 := H') GrM.refl (VR.al r) hp
    exact q _ S3 F3
theorem ss_forT {is : List Nat} {src : XS} {b : SL} {ts : List Expr} {kt : Nat} {iter : Expr} {body : List Stmt} {pt pos : Pos} (hn : tgsB N sc is ts = true) (hns : noSet iter = true) (hs : SSv ft k N tabs sc src iter) (hb : SSl ft k N tabs sc b body) :
    SSt ft k N tabs sc (.forT is src b) (.For (.Tuple ts kt pt) iter body [] pos) := by
  intro X W H₀ O₀ M mu0 σ H env oc Dn C S ev p
  obtain ⟨l1, l2⟩ := tgs_len (e := X.env) hn
  refine SD.of (ps_for C.po C.gc.calm pi_S (pg_tup (n := is.length) C.gc.calm (pgs_names C hn) l1 l2) pss_S (fset hns)) ?_
  rcases exO_inv ev with ⟨c, e1, rfl⟩ | ⟨⟨f, ds⟩, e1, e2⟩
  · exact hs X W _ _ _ _ σ H env _ _ _ C S e1 (fun _ z => by cases z) (fun c' z => by cases z; exact p.err S)
  · refine hs X W _ _ _ _ σ H env _ _ _ C S e1 (fun p' z J H2 g sa => ?_) (fun _ z => by cases z)
    cases z
    refine loop_run (tg := .Tuple ts kt pt) (iter := iter) C (S.grow g) hb (fun σ' H' e' e2 x d Q S' r hp q => ?_) sa e2 (p.fr (Fr.of_gr g : Fr σ env H σ env H2))
    cases d with
    | tuple ds =>
      simp only at hp
      split at hp
      · rename_i hl
        cases r with
        | tup ht t =>
          rename_i a vs
          exact ⟨a, vs, rfl, ht, by rw [t.length]; exact hl, gNs_run C S' t hp q⟩
      · cases hp
    | _ => cases hp
/-! ### returns -/
theorem vr_forb {H1 H' : Hp} {kd : Kd} {v : V} {d : R.D} (S : SV tabs X H₀ O₀ M mu0 σ H1 env) (vr : VR X.K (Fbs H₀ O₀ σ env) H1 H' kd v d) : VR X.K (forb H₀ O₀) H₀ H' kd v d := by
  refine ⟨vr.1.less fun a z => .inl z, fun e => ?_⟩
  obtain ⟨a, e1, e2, o⟩ := vr.2 e
  exact ⟨a, e1, S.gr.none_back e2, o.less fun b z => z.imp .inl id⟩
theorem ss_ret {x : R.X} {e : Expr} {pos : Pos} (hm : mtE N sc x e = true) (he : ES ft k N tabs sc x e) : SSt ft k N tabs sc (.ret x) (.Return (some e) pos) := by
  intro X W H₀ O₀ M mu0 σ H env oc Dn C S ev p
  have norm : exO (evE ft x env) (fun q => some (Oc.rt env q.1 q.2)) = some oc → SD X (.Return (some e) pos) Dn σ H := by
    intro ev
    refine SD.of (ps_ret pe_S) (he.st C S ev p fun kd d e2 v H2 g vr => ?_)
    cases e2
    exact p v σ H2 (S.grow g) (Fr.of_gr g) (vr_forb S vr)
  by_cases hx : ∃ i, x = .v i
  · obtain ⟨i, rfl⟩ := hx
    cases e with
    | Name y py =>
      have hn : slotB' N sc i y = true := by simpa only [mtE] using hm
      by_cases ho : ∃ f d, env[i]? = some (Slot.ow true f d)
      · obtain ⟨f, d, sl⟩ := ho
        have ev' : exO (match env[i]? with
            | some (.ow true f d) => ok ((⟨true, f⟩, d) : Kd × R.D)
            | s => lift (slotV s)) (fun q => some (Oc.rt env q.1 q.2)) = some oc := ev
        rw [sl] at ev'
        cases ev'
        refine SD.of (ps_ret (name_pe C hn)) ?_
        obtain ⟨a, s1, ow⟩ := S.ev.ow i true f d sl
        have hnew := S.nw i f d a sl s1
        refine ⟨_, s1, p _ σ H S Fr.refl ⟨?_, fun _ => ⟨a, rfl, hnew, ?_⟩⟩⟩
        · refine ow.rp (Keep.weak fun b z => .inl z) fun z => ?_
          cases f with
          | true => exact z hnew
          | false => exact C.o0 a z hnew
        · exact ow.less fun b z => by
            rcases z with z | z
            · exact .inl z
            · rw [z]; exact .inr ⟨i, true, f, d, sl, s1⟩
      · refine norm ?_
        have ev' : exO (match env[i]? with
            | some (.ow true f d) => ok ((⟨true, f⟩, d) : Kd × R.D)
            | s => lift (slotV s)) (fun q => some (Oc.rt env q.1 q.2)) = some oc := ev
        show exO (lift (slotV env[i]?)) _ = some oc
        split at ev'
        · rename_i f d sl
          exact absurd ⟨f, d, sl⟩ ho
        · exact ev'
    | _ => simp [mtE] at hm
  · refine norm ?_
    have e0 : retE ft x env = evE ft x env := by
      unfold retE
      split
      · exact absurd ⟨_, rfl⟩ hx
      · rfl
    rw [← e0]
    exact ev
theorem ss_retn {pos : Pos} : SSt ft k N tabs sc .retn (.Return none pos) := by
  intro X W H₀ O₀ M mu0 σ H env oc Dn C S ev p
  cases ev
  exact SD.of ps_retN (p .non σ H S Fr.refl ⟨.non, fun z => by cases z⟩)
theorem ss_ex {x : R.X} {e : Expr} {pos : Pos} (hc : noComp e = true) (he : ES ft k N tabs sc x e) : SSt ft k N tabs sc (.ex x) (.Expr e pos) := by
  intro X W H₀ O₀ M mu0 σ H env oc Dn C S ev p
  refine SD.of (ps_expr pe_S (sw_false hc)) (he.st C S ev p fun kd d e2 v H2 g vr => ?_)
  cases e2
  exact p σ H2 (S.grow g) (Fr.of_gr g)
end R
namespace R
open PySem PySem.Spec PyProof.Rows L2
variable {ft : FT} {k : Nat} {N : List Str} {tabs : List Addr} {W : WX} {sc : Scope} {H₀ : Hp} {O₀ M : Addr → Prop} {mu0 : Nat → Addr → Prop} {X : Cx} {σ σ' σ2 : L2.St} {H H' H1 H2 : Hp} {env env' env2 : Env1}
theorem ss_while {c : R.X} {b : SL} {ec : Expr} {sb : List Stmt} {pos : Pos} (hc : TS' ft k N tabs sc c ec) (hb : SSl ft k N tabs sc b sb) : SSt ft k N tabs sc (.wh c b) (.While ec sb [] pos) := by
  intro X W H₀ O₀ M mu0 σ H env oc Dn C S ev p
  refine SD.of (ps_while C.po pt_S pss_S) ?_
  refine ⟨fun m σ' H' => ∃ e', SV tabs X H₀ O₀ M mu0 σ' H' e' ∧ Fr σ env H σ' e' H' ∧ whS (fun e => evT ft c e) (fun e => evSl ft b e) m e' = some oc, ⟨turns, env, S, Fr.refl, ev⟩, ?_⟩
  rintro m σ' H' ⟨e', S', F', ev'⟩
  cases m with
  | zero => cases ev'
  | succ m =>
    rcases exO_inv ev' with ⟨c0, e1, rfl⟩ | ⟨t, e1, e2⟩
    · exact hc X W _ σ' H' e' _ _ (S'.at C) e1 (fun _ z => by cases z) (fun c' z => by cases z; exact (p.fr F').err S')
    · refine hc X W _ σ' H' e' _ _ (S'.at C) e1 (fun p' z H2 g => ?_) (fun _ z => by cases z)
      cases z
      have F2 : Fr σ env H σ' e' H2 := F'.trans (Fr.of_gr g)
      cases t with
      | true =>
        refine iteT ⟨fun σ2 H2 => ∃ e', SV tabs X H₀ O₀ M mu0 σ2 H2 e' ∧ Fr σ env H σ2 e' H2 ∧ whS (fun e => evT ft c e) (fun e => evSl ft b e) m e' = some oc, fun σ2 H2 h => ⟨m, Nat.lt_succ_self m, h⟩, ?_⟩
        have e3 : (match evSl ft b e' with
          | some (.nx e) => whS (fun e => evT ft c e) (fun e => evSl ft b e) m e
          | some (.ct e) => whS (fun e => evT ft c e) (fun e => evSl ft b e) m e
          | some (.bk e) => some (.nx e)
          | o => o) = some oc := e2
        cases e4 : evSl ft b e' with
        | none => rw [e4] at e3; cases e3
        | some o =>
          rw [e4] at e3
          cases o with
          | nx e5 => exact hb X W _ _ _ _ σ' H2 e' _ _ C (S'.grow g) e4 fun σ3 H3 S3 F3 => ⟨e5, S3, F2.trans F3, e3⟩
          | ct e5 => exact hb X W _ _ _ _ σ' H2 e' _ _ C (S'.grow g) e4 fun σ3 H3 S3 F3 => ⟨e5, S3, F2.trans F3, e3⟩
          | bk e5 =>
            cases e3
            exact hb X W _ _ _ _ σ' H2 e' _ _ C (S'.grow g) e4 fun σ3 H3 S3 F3 => p σ3 H3 S3 (F2.trans F3)
          | rt e5 kd d2 =>
            cases e3
            exact hb X W _ _ _ _ σ' H2 e' _ _ C (S'.grow g) e4 fun v σ3 H3 S3 F3 vr => p v σ3 H3 S3 (F2.trans F3) vr
          | er c =>
            cases e3
            exact hb X W _ _ _ _ σ' H2 e' _ _ C (S'.grow g) e4 (p.fr F2)
      | false =>
        have e3 : some (Oc.nx e') = some oc := e2
        cases e3
        exact iteF (p σ' H2 (S'.grow g) F2)
end R
namespace R
open PySem PySem.Spec PyProof.Rows L2
/-! ### match: patterns -/
theorem ffm {p : Prop} (h : false = true) : p := by cases h
def mtLit (w : Str) : Pattern → Bool
  | .MatchValue (.Constant (.str x) _ _) _ => decide (x = w)
  | _ => false
def mtLits : List Str → List Pattern → Bool
  | [], [] => true
  | w :: ws, p :: ps => mtLit w p && mtLits ws ps
  | _, _ => false
def mtP1 (N : List Str) (sc : Scope) : P1 → Pattern → Bool
  | .lit [w], .MatchValue v p => mtLit w (.MatchValue v p)
  | .lit ws, .MatchOr ps _ => mtLits ws ps
  | .cap i, .MatchAs none (some y) _ => nameB N sc i y
  | .wild, .MatchAs none none _ => true
  | _, _ => false
def mtPs (N : List Str) (sc : Scope) : List P1 → List Pattern → Bool
  | [], [] => true
  | p :: ps, q :: qs => mtP1 N sc p q && mtPs N sc ps qs
  | _, _ => false
def noStar (ps : List Pattern) : Bool := decide (ps.findIdx? (·.isStar) = none) && ps.all fun p => !p.isStar
def mtPt (N : List Str) (sc : Scope) : Pt → Pattern → Bool
  | .tup ps, .MatchSequence qs _ => mtPs N sc ps qs && noStar qs && !(qs.all fun p => p.isWildcard || (p.isStar && p.names.isEmpty))
  | .one [w], .MatchValue v p => mtLit w (.MatchValue v p)
  | .one ws, .MatchOr ps _ => mtLits ws ps
  | _, _ => false
section
variable {X : Cx} {pins : List (Addr × Obj)} {σ : L2.St} {H : Hp} {s : Shared}
theorem lit_run {w y : Str} {p : Pattern} {u : Value} {Q : Option (List (Str × Value)) → Shared → Prop} (hm : mtLit w p = true) (I : Inv X pins σ H s) (r : RelV (.str y) u)
    (h : ∀ s', Inv X pins σ H s' → Q (if y = w then some [] else none) s') : wpAny (model X.prog X.w) X.A (matchPattern p X.env u) Q X.xe s := by
  cases p with
  | MatchValue v pp =>
    cases v <;> first | exact ffm hm | skip
    rename_i c j pc
    cases c <;> first | exact ffm hm | skip
    rename_i x
    have hx : x = w := of_decide_eq_true hm
    subst hx
    refine wpAny_matchPattern_Value (thn ((pe_str (X := X) (x := x) (j := j) (pos := pc)).run pins s σ H (fun v H' => v = .str x ∧ H' = H) I ⟨rfl, rfl⟩) fun z s1 ⟨v1, H1, I1, r1, e1, e2⟩ => ?_)
    subst e1 e2
    refine thn (op_eq pins s1 σ H1 (.str y) (.str x) u z (fun v H' => v = .bl (decide (V.str y = V.str x)) ∧ H' = H1) I1 r r1 ⟨rfl, rfl, rfl⟩) fun c s2 ⟨v2, H2, I2, r2, e1, e2⟩ => ?_
    subst e1 e2
    obtain rfl : c = Value.bool (decide (V.str y = V.str x)) := r2
    refine wpAny_truthy_bool ?_
    have := h s2 I2
    by_cases hy : y = x
    · subst hy
      rw [if_pos rfl] at this
      rw [if_pos (by simp)]
      exact this
    · rw [if_neg hy] at this
      rw [if_neg (by simp [hy])]
      exact this
  | _ => exact ffm hm
theorem lits_run {y : Str} {u : Value} : ∀ {ws : List Str} {ps : List Pattern} {s : Shared} {Q : Option (List (Str × Value)) → Shared → Prop}, mtLits ws ps = true → Inv X pins σ H s → RelV (.str y) u →
    (∀ s', Inv X pins σ H s' → Q (if y ∈ ws then some [] else none) s') → wpAny (model X.prog X.w) X.A (matchFirst ps X.env u) Q X.xe s
  | [], [], s, Q, _, I, r, h => wpAny_matchFirst_nil (by simpa using h s I)
  | [], _ :: _, _, _, hm, _, _, _ => ffm hm
  | _ :: _, [], _, _, hm, _, _, _ => ffm hm
  | w :: ws, p :: ps, s, Q, hm, I, r, h => by
    have hm2 : (mtLit w p && mtLits ws ps) = true := hm
    rw [Bool.and_eq_true] at hm2
    refine wpAny_matchFirst_cons (lit_run hm2.1 I r fun s1 I1 => ?_)
    by_cases hy : y = w
    · rw [if_pos hy]
      have := h s1 I1
      rw [if_pos (by rw [hy]; exact List.mem_cons_self)] at this
      exact this
    · rw [if_neg hy]
      refine lits_run hm2.2 I1 r fun s2 I2 => ?_
      have := h s2 I2
      simpa [hy] using this
theorem mtLits_names : ∀ {ws : List Str} {ps : List Pattern}, mtLits ws ps = true → namesOfAll (ps.take 1) = []
  | [], [], _ => rfl
  | [], _ :: _, hm => ffm hm
  | _ :: _, [], hm => ffm hm
  | w :: ws, p :: ps, hm => by
    have hm2 : (mtLit w p && mtLits ws ps) = true := hm
    rw [Bool.and_eq_true] at hm2
    have h1 := hm2.1
    cases p with
    | MatchValue v pp => rfl
    | _ => exact ffm h1
/-- what is bound, by slots and by names -/
def BR (K : PySem.W.Frag) (H : Hp) (Fb : Addr → Prop) (N : List Str) (sc : Scope) : List (Nat × R.D) → List (Str × Value) → Prop
  | [], [] => True
  | (i, d) :: bs, (n, u) :: us => nameB N sc i n = true ∧ (∃ v, RelV v u ∧ Rp K H Fb v d) ∧ BR K H Fb N sc bs us
  | _, _ => False
def MR (K : PySem.W.Frag) (H : Hp) (Fb : Addr → Prop) (N : List Str) (sc : Scope) : Option (List (Nat × R.D)) → Option (List (Str × Value)) → Prop
  | none, none => True
  | some bs, some us => BR K H Fb N sc bs us
  | _, _ => False
theorem BR.append {K : PySem.W.Frag} {Fb : Addr → Prop} {N : List Str} {sc : Scope} : ∀ {bs cs : List (Nat × R.D)} {us ws : List (Str × Value)}, BR K H Fb N sc bs us → BR K H Fb N sc cs ws → BR K H Fb N sc (bs ++ cs) (us ++ ws)
  | [], _, [], _, _, h => h
  | [], _, _ :: _, _, h, _ => h.elim
  | _ :: _, _, [], _, h, _ => h.elim
  | (_, _) :: _, _, (_, _) :: _, _, ⟨a, b, c⟩, h => ⟨a, b, c.append h⟩
variable {N : List Str} {sc : Scope} {Fb : Addr → Prop}
theorem or_run {y : Str} {u : Value} {ws : List Str} {ps : List Pattern} {pp : Pos} {Q : Option (List (Str × Value)) → Shared → Prop} (hm : mtLits ws ps = true) (I : Inv X pins σ H s) (r : RelV (.str y) u)
    (h : ∀ s', Inv X pins σ H s' → Q (if y ∈ ws then some [] else none) s') : wpAny (model X.prog X.w) X.A (matchPattern (.MatchOr ps pp) X.env u) Q X.xe s := by
  refine wpAny_matchPattern_Or (lits_run hm I r fun s1 I1 => ?_)
  have := h s1 I1
  by_cases hy : y ∈ ws
  · rw [if_pos hy] at this ⊢
    simp only
    rw [mtLits_names hm]
    exact this
  · rw [if_neg hy] at this ⊢
    exact this
theorem p1_run {p : P1} {q : Pattern} {v : V} {u : Value} {d : R.D} {m : Option (List (Nat × R.D))} {Q : Option (List (Str × Value)) → Shared → Prop} (hm : mtP1 N sc p q = true) (I : Inv X pins σ H s) (r : RelV v u) (rp : Rp X.K H Fb v d)
    (e : p1E p d = some m) (h : ∀ us s', Inv X pins σ H s' → MR X.K H Fb N sc m us → Q us s') : wpAny (model X.prog X.w) X.A (matchPattern q X.env u) Q X.xe s := by
  cases p with
  | wild =>
    cases e
    cases q <;> first | exact ffm hm | skip
    rename_i o n pp
    cases o <;> cases n <;> first | exact ffm hm | skip
    exact wpAny_matchPattern_Capture (h _ s I trivial)
  | cap i =>
    cases e
    cases q <;> first | exact ffm hm | skip
    rename_i o n pp
    cases o <;> cases n <;> first | exact ffm hm | skip
    exact wpAny_matchPattern_Capture (h _ s I ⟨hm, ⟨v, r, rp⟩, trivial⟩)
  | lit ws =>
    cases d <;> first | (cases e; done) | skip
    rename_i y
    cases rp
    cases e
    have fin : ∀ (b : Prop) [Decidable b] (s' : Shared), Inv X pins σ H s' → MR X.K H Fb N sc (if b then some [] else none) (if b then some [] else none) := fun b _ s' _ => by
      by_cases hb : b
      · simp only [hb, if_true]; exact trivial
      · simp only [hb, if_false]; exact trivial
    cases q with
    | MatchValue vv pp =>
      rcases ws with _ | ⟨w, _ | ⟨w2, ws⟩⟩
      · exact ffm hm
      · refine lit_run (w := w) hm I r fun s' I' => ?_
        have := h (if y ∈ [w] then some [] else none) s' I' (fin _ s' I')
        simpa using this
      · exact ffm hm
    | MatchOr ps pp =>
      have hm2 : mtLits ws ps = true := by
        rcases ws with _ | ⟨w, _ | ⟨w2, ws⟩⟩ <;> exact hm
      exact or_run hm2 I r fun s' I' => h _ s' I' (fin _ s' I')
    | _ => rcases ws with _ | ⟨w, _ | ⟨w2, ws⟩⟩ <;> exact ffm hm
theorem ps_run : ∀ {ps : List P1} {qs : List Pattern} {vs : List V} {us : List Value} {ds : List R.D} {m : Option (List (Nat × R.D))} {s : Shared} {Q : Option (List (Str × Value)) → Shared → Prop}, mtPs N sc ps qs = true → (qs.all fun p => !p.isStar) = true → Vals vs us → RpA X.K H Fb vs ds →
    psE ps ds = some m → Inv X pins σ H s → (∀ r s', Inv X pins σ H s' → MR X.K H Fb N sc m r → Q r s') → wpAny (model X.prog X.w) X.A (matchEach qs X.env us) Q X.xe s
  | [], [], vs, us, ds, m, s, Q, _, _, rv, ra, e, I, h => by
    cases ra with
    | nil =>
      cases e
      exact wpAny_matchEach_nil (h _ s I trivial)
    | cons _ _ => cases e
  | [], _ :: _, _, _, _, _, _, _, hm, _, _, _, _, _, _ => ffm hm
  | _ :: _, [], _, _, _, _, _, _, hm, _, _, _, _, _, _ => ffm hm
  | p :: ps, q :: qs, vs, us, ds, m, s, Q, hm, hst, rv, ra, e, I, h => by
    have hm2 : (mtP1 N sc p q && mtPs N sc ps qs) = true := hm
    rw [Bool.and_eq_true] at hm2
    rw [List.all_cons, Bool.and_eq_true] at hst
    cases ra with
    | nil => cases e
    | cons r1 ra =>
      cases rv with
      | cons rv1 rv =>
        simp only [psE] at e
        refine wpAny_matchEach_cons ?_ (by simpa using hst.1)
        cases e1 : p1E p _ with
        | none => rw [e1] at e; cases e
        | some m1 =>
          rw [e1] at e
          refine p1_run hm2.1 I rv1 r1 e1 fun r s1 I1 hr => ?_
          cases m1 with
          | none =>
            cases r with
            | none => cases e; exact h none s1 I1 trivial
            | some us => exact hr.elim
          | some bs =>
            cases r with
            | none => exact hr.elim
            | some us1 =>
              simp only at e ⊢
              cases e2 : psE ps _ with
              | none => rw [e2] at e; cases e
              | some m2 =>
                rw [e2] at e
                refine ps_run hm2.2 hst.2 rv ra e2 I1 fun r2 s2 I2 hr2 => ?_
                cases m2 with
                | none =>
                  cases r2 with
                  | none => cases e; exact h none s2 I2 trivial
                  | some us => exact hr2.elim
                | some cs =>
                  cases r2 with
                  | none => exact hr2.elim
                  | some us2 => cases e; exact h _ s2 I2 (BR.append hr hr2)
theorem pt_run {p : Pt} {q : Pattern} {v : V} {u : Value} {d : R.D} {m : Option (List (Nat × R.D))} {Q : Option (List (Str × Value)) → Shared → Prop} (hc : X.calm = true) (hm : mtPt N sc p q = true) (I : Inv X pins σ H s) (r : RelV v u) (rp : Rp X.K H Fb v d)
    (e : ptE p d = some m) (h : ∀ us s', Inv X pins σ H s' → MR X.K H Fb N sc m us → Q us s') : wpAny (model X.prog X.w) X.A (matchPattern q X.env u) Q X.xe s := by
  cases p with
  | one ws =>
    cases d <;> first | (cases e; done) | skip
    rename_i y
    cases rp
    cases e
    have fin : ∀ (b : Prop) [Decidable b], MR X.K H Fb N sc (if b then some [] else none) (if b then some [] else none) := fun b _ => by
      by_cases hb : b
      · simp only [hb, if_true]; exact trivial
      · simp only [hb, if_false]; exact trivial
    cases q with
    | MatchValue vv pp =>
      rcases ws with _ | ⟨w, _ | ⟨w2, ws⟩⟩
      · exact ffm hm
      · refine lit_run (w := w) hm I r fun s' I' => ?_
        have := h (if y ∈ [w] then some [] else none) s' I' (fin _)
        simpa using this
      · exact ffm hm
    | MatchOr ps pp =>
      have hm2 : mtLits ws ps = true := by
        rcases ws with _ | ⟨w, _ | ⟨w2, ws⟩⟩ <;> exact hm
      exact or_run hm2 I r fun s' I' => h _ s' I' (fin _)
    | _ => rcases ws with _ | ⟨w, _ | ⟨w2, ws⟩⟩ <;> exact ffm hm
  | tup ps =>
    cases d <;> first | (cases e; done) | skip
    rename_i ds
    cases q <;> first | exact ffm hm | skip
    rename_i qs pp
    have hm2 : (mtPs N sc ps qs && noStar qs && !(qs.all fun p => p.isWildcard || (p.isStar && p.names.isEmpty))) = true := hm
    simp only [Bool.and_eq_true, Bool.not_eq_true', noStar, decide_eq_true_eq] at hm2
    obtain ⟨⟨h1, h2, h3⟩, h4⟩ := hm2
    have hlen : ∀ {ps : List P1} {qs : List Pattern}, mtPs N sc ps qs = true → ps.length = qs.length := by
      intro ps
      induction ps with
      | nil => intro qs z; cases qs with
        | nil => rfl
        | cons _ _ => exact ffm z
      | cons p ps ih => intro qs z; cases qs with
        | nil => exact ffm z
        | cons q qs =>
          have z2 : (mtP1 N sc p q && mtPs N sc ps qs) = true := z
          rw [Bool.and_eq_true] at z2
          rw [List.length_cons, List.length_cons, ih z2.2]
    have hl := hlen h1
    cases rp with
    | tup hq ra =>
      rename_i a vs
      obtain rfl : u = Value.ref a := r
      obtain ⟨its, rv, ht, hz⟩ := I.tuple hq
      have hsz : (its.toArray.size : Int) < 2 ^ 63 := by
        rw [List.size_toArray, ← rv.length]
        have : (sizeLine : Int) < 2 ^ 63 := by decide
        omega
      have hlv : its.length = ds.length := by rw [← rv.length, ra.length]
      have e' : (if ds.length = ps.length then psE ps ds else some none) = some m := e
      split at e'
      · rename_i hd
        have hn : its.toArray.size = qs.length := by rw [List.size_toArray]; omega
        refine matchSeq_tuple_hit ht hsz hn ?_ h2 h4
        rw [← hn]
        have I0 : Inv X pins σ H { s with toks := s.toks + 1 + 1 } := I.tok _
        refine unpackItems_tuple (I0.ok.hd hc) ht fun h' hx => ?_
        have I1 : Inv X pins σ H { s with heap := h', toks := s.toks + 1 + 1 } := I0.kept (t' := s.toks + 1 + 1) fun b o e => hx b o (Nat.ne_of_lt (Heap.lt_size e)) e
        exact ps_run h1 h3 (by simpa using rv) ra e' I1 h
      · rename_i hd
        cases e'
        exact matchSeq_tuple_miss ht hsz (by rw [List.size_toArray]; omega) (h none _ (I.tok _) trivial) h2 h4
end
end R
namespace R
open PySem PySem.Spec PyProof.Rows L2
variable {ft : FT} {k : Nat} {N : List Str} {tabs : List Addr} {W : WX} {sc : Scope} {H₀ : Hp} {O₀ M : Addr → Prop} {mu0 : Nat → Addr → Prop} {X : Cx} {σ σ' σ2 : L2.St} {H H' H1 H2 : Hp} {env env' env2 : Env1}
theorem BR.keep {K : PySem.W.Frag} {Fb Fb' : Addr → Prop} {H H' : Hp} (kp : Keep Fb Fb' K H H') : ∀ {bs : List (Nat × R.D)} {us : List (Str × Value)}, BR K H Fb N sc bs us → BR K H' Fb' N sc bs us
  | [], [], h => h
  | [], _ :: _, h => h.elim
  | _ :: _, [], h => h.elim
  | (_, _) :: _, (_, _) :: _, ⟨a, ⟨v, b, c⟩, d⟩ => ⟨a, ⟨v, b, c.keep kp⟩, d.keep kp⟩
theorem bind_run (C : DC ft k N tabs W sc H₀ O₀ M X) {pins : List (Addr × Obj)} {f : Bool} {e1 : Env1} : ∀ {bs : List (Nat × R.D)} {us : List (Str × Value)} {σ : L2.St} {env : Env1} {s : Shared} {Q : Unit → Shared → Prop}, SV tabs X H₀ O₀ M mu0 σ H env → BR X.K H (Fbs H₀ O₀ σ env f) N sc bs us →
    putB env f bs = some e1 → Inv X pins σ H s → (∀ σ' s', Inv X pins σ' H s' → SV tabs X H₀ O₀ M mu0 σ' H e1 → Fr σ env H σ' e1 H → Q () s') → wpAny (model X.prog X.w) X.A (assignInOrder (us.map fun (n, _) => bindName X.env n) (us.map (·.2))) Q X.xe s
  | [], [], σ, env, s, Q, S, _, hp, I, q => by
    cases hp
    exact wpAny_assignInOrder_none (q σ s I S Fr.refl)
  | [], _ :: _, _, _, _, _, _, h, _, _, _ => h.elim
  | _ :: _, [], _, _, _, _, _, h, _, _, _ => h.elim
  | (i, d) :: bs, (n, u) :: us, σ, env, s, Q, S, ⟨hn, ⟨v, r, rp⟩, hb⟩, hp, I, q => by
    have hp2 : ((putS env i ⟨false, f⟩ d).bind fun e => putB e f bs) = some e1 := hp
    cases e : putS env i ⟨false, f⟩ d with
    | none => rw [e] at hp2; cases hp2
    | some e2 =>
      rw [e] at hp2
      obtain ⟨n1, n2⟩ := name_at C hn
      obtain ⟨S1, F1, _⟩ := S.put C (H2 := H) GrM.refl (VR.al rp) e
      refine wpAny_assignInOrder_more (wpAny_bindName (store_ok I C.ndN n1 n2 r (fun s' I' => ?_) (.inl (C.fn n))))
      exact bind_run C S1 (hb.keep (F1.keep f)) hp2 I' fun σ' s' I2 S' F' => q σ' s' I2 S' (F1.trans F')
/-! ### match: the cases -/
def GrdOk (ft : FT) (k : Nat) (N : List Str) (tabs : List Addr) (sc : Scope) : XO → Option Expr → Prop
  | .no, none => True
  | .so x, some e => TS' ft k N tabs sc x e
  | _, _ => False
def CsOk (ft : FT) (k : Nat) (N : List Str) (tabs : List Addr) (sc : Scope) : CL → List MatchCase → Prop
  | .nil, [] => True
  | .cons p g b cs, c :: rest => mtPt N sc p c.pattern = true ∧ GrdOk ft k N tabs sc g c.guard ∧ SSl ft k N tabs sc b c.body ∧ CsOk ft k N tabs sc cs rest
  | _, _ => False
theorem cs_run (C : DC ft k N tabs W sc H₀ O₀ M X) {pins : List (Addr × Obj)} {f : Bool} {v : V} {u : Value} {d : R.D} {oc : Oc} {Dn : Ends} (r : RelV v u) : ∀ {cs : CL} {cases : List MatchCase} {σ : L2.St} {H : Hp} {env : Env1} {first : Bool} {s : Shared}, CsOk ft k N tabs sc cs cases → SV tabs X H₀ O₀ M mu0 σ H env → Rp X.K H (Fbs H₀ O₀ σ env f) v d →
    evCs ft cs f d env = some oc → Post tabs X W H₀ O₀ M mu0 σ env H Dn oc → Inv X pins σ H s → wpAny (model X.prog X.w) X.A (matchCases cases X.env u first) (SP X pins Dn) X.xe s
  | .nil, [], σ, H, env, first, s, _, S, rp, ev, p, I => by
    cases ev
    exact wpAny_matchCases_nil ⟨σ, H, I, p σ H S Fr.refl⟩
  | .nil, _ :: _, _, _, _, _, _, h, _, _, _, _, _ => h.elim
  | .cons _ _ _ _, [], _, _, _, _, _, h, _, _, _, _, _ => h.elim
  | .cons p g b cs, ⟨pat, gd, body⟩ :: rest, σ, H, env, first, s, ⟨h1, h2, h3, h4⟩, S, rp, ev, po, I => by
    have ev' : (match ptE p d with
      | none => none
      | some none => evCs ft cs f d env
      | some (some bs) => match putB env f bs with
        | none => none
        | some e1 => exO (grdE ft g e1) fun t => if t = true then evSl ft b e1 else evCs ft cs f d e1) = some oc := ev
    cases e : ptE p d with
    | none => rw [e] at ev'; cases ev'
    | some m =>
      rw [e] at ev'
      refine wpAny_matchCases_cons (pt_run C.gc.calm h1 I r rp e fun us s1 I1 hr => ?_)
      cases m with
      | none =>
        cases us with
        | some us => exact hr.elim
        | none => exact cs_run C r h4 S rp ev' po I1
      | some bs =>
        cases us with
        | none => exact hr.elim
        | some us =>
          simp only at ev' ⊢
          cases e2 : putB env f bs with
          | none => rw [e2] at ev'; cases ev'
          | some e1 =>
            rw [e2] at ev'
            simp only at ev'
            refine bind_run C S hr e2 I1 fun σ' s2 I2 S2 F2 => ?_
            have po2 := po.fr F2
            have rp2 := rp.keep (F2.keep f)
            cases g with
            | no =>
              cases gd with
              | some _ => exact h2.elim
              | none =>
                have ev2 : evSl ft b e1 = some oc := ev'
                exact h3 X W _ _ _ _ σ' H e1 oc Dn C S2 ev2 po2 pins s2 I2
            | so x =>
              cases gd with
              | none => exact h2.elim
              | some ge =>
                have h2' : TS' ft k N tabs sc x ge := h2
                rcases exO_inv ev' with ⟨c0, e3, rfl⟩ | ⟨t, e3, e4⟩
                · refine thn (h2' X W _ σ' H e1 _ (fun _ _ => False) (S2.at C) e3 (fun _ z => by cases z) (fun c' z => by cases z; exact po2.err S2) pins s2 I2) fun b s3 h => ?_
                  obtain ⟨_, _, z⟩ := h
                  exact z.elim
                · refine thn (h2' X W _ σ' H e1 _ (fun b H2 => b = t ∧ Gr H H2) (S2.at C) e3 (fun b z H2 g2 => by cases z; exact ⟨rfl, g2⟩) (fun _ z => by cases z) pins s2 I2) fun b2 s3 h => ?_
                  obtain ⟨H2, I3, rfl, g2⟩ := h
                  have S3 := S2.grow g2
                  have po3 := po2.fr (Fr.of_gr g2 : Fr σ' e1 H σ' e1 H2)
                  cases b2 with
                  | true =>
                    rw [if_pos rfl] at e4 ⊢
                    exact h3 X W _ _ _ _ σ' H2 e1 oc Dn C S3 e4 po3 pins s3 I3
                  | false =>
                    rw [if_neg (by decide)] at e4 ⊢
                    exact cs_run C r h4 S3 (rp2.gr g2) e4 po3 I3
theorem ss_mat {i : Nat} {cs : CL} {y : Str} {py pos : Pos} {cases : List MatchCase} (hn : slotB' N sc i y = true) (hc : CsOk ft k N tabs sc cs cases) : SSt ft k N tabs sc (.mat i cs) (.Match (.Name y py) cases pos) := by
  intro X W H₀ O₀ M mu0 σ H env oc Dn C S ev p pins s I
  have ev' : (match env[i]? with
      | some (.sh f d) => evCs ft cs f d env
      | _ => none) = some oc := ev
  split at ev'
  · rename_i f d sl
    obtain ⟨v, s1, r⟩ := S.ev.sh i f d sl
    refine wpAny_Match (thn ((name_pe C hn).run pins s σ H (fun v' H' => v' = v ∧ H' = H) I ⟨v, s1, rfl, rfl⟩) fun u s2 ⟨v2, H2, I2, r2, e1, e2⟩ => ?_)
    subst e1 e2
    exact cs_run C r2 hc S r ev' p I2
  · cases ev'
theorem ss_unk {st : Stmt} : SSt ft k N tabs sc .unk st := by
  intro X W H₀ O₀ M mu0 σ H env oc Dn C S ev p
  have ev' : (none : Option Oc) = some oc := ev
  cases ev'
end R
namespace R
open PySem PySem.Spec PyProof.Rows L2
variable {ft : FT} {k : Nat} {N : List Str} {tabs : List Addr} {W : WX} {sc : Scope} {H₀ : Hp} {O₀ M : Addr → Prop} {mu0 : Nat → Addr → Prop} {X : Cx} {σ σ' σ2 : L2.St} {H H' H1 H2 : Hp} {env env' env2 : Env1}
/-! ### calls that change what they are given -/
inductive MArgs (K : PySem.W.Frag) (H : Hp) (O : Addr → Prop) (σ : L2.St) (env : Env1) (mu : List Nat) : Nat → XL → List V → List R.D → Prop
  | nil {p : Nat} : MArgs K H O σ env mu p .nil [] []
  | sh {p : Nat} {e : R.X} {es : XL} {v : V} {vs : List V} {d : R.D} {ds : List R.D} : p ∉ mu → Rp K H O v d → MArgs K H O σ env mu (p + 1) es vs ds → MArgs K H O σ env mu p (.cons e es) (v :: vs) (d :: ds)
  | mu {p j : Nat} {es : XL} {a : Addr} {n f : Bool} {vs : List V} {d : R.D} {ds : List R.D} : p ∈ mu → env[j]? = some (Slot.ow n f d) → σ[j]? = some (some (V.ref a)) → MArgs K H O σ env mu (p + 1) es vs ds → MArgs K H O σ env mu p (.cons (.v j) es) (V.ref a :: vs) (d :: ds)
theorem MArgs.gr {K : PySem.W.Frag} {O : Addr → Prop} {mu : List Nat} (g : Gr H1 H2) : ∀ {p : Nat} {es : XL} {vs : List V} {ds : List R.D}, MArgs K H1 O σ env mu p es vs ds → MArgs K H2 O σ env mu p es vs ds
  | _, _, _, _, .nil => .nil
  | _, _, _, _, .sh h r t => .sh h (r.gr g) (t.gr g)
  | _, _, _, _, .mu h a b t => .mu h a b (t.gr g)
theorem MArgs.len {K : PySem.W.Frag} {O : Addr → Prop} {mu : List Nat} : ∀ {p : Nat} {es : XL} {vs : List V} {ds : List R.D}, MArgs K H O σ env mu p es vs ds → vs.length = ds.length
  | _, _, _, _, .nil => rfl
  | _, _, _, _, .sh _ _ t => by simp [t.len]
  | _, _, _, _, .mu _ _ _ t => by simp [t.len]
theorem MArgs.shs {K : PySem.W.Frag} {O : Addr → Prop} {mu : List Nat} : ∀ {p : Nat} {es : XL} {vs : List V} {ds : List R.D}, MArgs K H O σ env mu p es vs ds → ∀ i v d, p + i ∉ mu → vs[i]? = some v → ds[i]? = some d → Rp K H O v d
  | _, _, _, _, .nil, i, v, d, _, e, _ => by simp at e
  | _, _, _, _, .sh h r t, 0, v, d, _, e1, e2 => by
    simp at e1 e2
    subst e1; subst e2
    exact r
  | p, _, _, _, .sh h r t, i + 1, v, d, hm, e1, e2 => t.shs i v d (by rw [Nat.add_right_comm]; exact hm) (by simpa using e1) (by simpa using e2)
  | p, _, _, _, .mu h _ _ t, 0, v, d, hm, e1, e2 => absurd h hm
  | p, _, _, _, .mu h _ _ t, i + 1, v, d, hm, e1, e2 => t.shs i v d (by rw [Nat.add_right_comm]; exact hm) (by simpa using e1) (by simpa using e2)
theorem MArgs.pr {K : PySem.W.Frag} {O : Addr → Prop} {mu : List Nat} : ∀ {p : Nat} {es : XL} {vs : List V} {ds : List R.D}, MArgs K H O σ env mu p es vs ds → ∀ i j, (i, j) ∈ muPr mu p es → ∃ (i' : Nat) (a : Addr) (n f : Bool) (d : R.D), i = p + i' ∧ vs[i']? = some (V.ref a) ∧ ds[i']? = some d ∧ env[j]? = some (Slot.ow n f d) ∧ σ[j]? = some (some (V.ref a))
  | _, _, _, _, .nil, i, j, h => by simp [muPr] at h
  | p, _, _, _, .sh h r t, i, j, hm => by
    simp only [muPr, if_neg h] at hm
    obtain ⟨i', a, n, f, d, e1, e2, e3, e4, e5⟩ := t.pr i j hm
    exact ⟨i' + 1, a, n, f, d, by omega, by simpa using e2, by simpa using e3, e4, e5⟩
  | p, _, _, _, .mu (j := j0) (a := a0) (n := n0) (f := f0) (d := d0) h q1 q2 t, i, j, hm => by
    simp only [muPr, if_pos h, List.cons_append, List.nil_append] at hm
    rcases List.mem_cons.mp hm with z | z
    · cases z
      exact ⟨0, a0, n0, f0, d0, rfl, rfl, rfl, q1, q2⟩
    · obtain ⟨i', a, n, f, d, e1, e2, e3, e4, e5⟩ := t.pr i j z
      exact ⟨i' + 1, a, n, f, d, by omega, by simpa using e2, by simpa using e3, e4, e5⟩
/-- the arguments are come by -/
theorem ma_run {mu : List Nat} (C : DC ft k N tabs W sc H₀ O₀ M X) : ∀ {es : XL} {l : List Expr} {p : Nat} {σ : L2.St} {H : Hp} {env : Env1} {r : Except Str (List R.D)} {Q : List V → Hp → Prop}, mtL N sc es l = true → SV tabs X H₀ O₀ M mu0 σ H env → evMA ft mu p es env = some r →
    (∀ ds, r = .ok ds → ∀ vs H2, Gr H H2 → MArgs X.K H2 (Fbs H₀ O₀ σ env false) σ env mu p es vs ds → Q vs H2) → (∀ c, r = .error c → ErrOk X W σ H c) → SA X l σ H Q
  | .nil, [], p, σ, H, env, r, Q, hm, S, ev, q, er => by
    cases ev
    exact SA.of pa_nil (q _ rfl [] H GrM.refl .nil)
  | .nil, _ :: _, _, _, _, _, _, _, hm, _, _, _, _ => by simp [mtL] at hm
  | .cons _ _, [], _, _, _, _, _, _, hm, _, _, _, _ => by simp [mtL] at hm
  | .cons e es, x :: l, p, σ, H, env, r, Q, hm, S, ev, q, er => by
    simp only [mtL, Bool.and_eq_true] at hm
    obtain ⟨⟨m1, m2⟩, m3⟩ := hm
    simp only [evMA] at ev
    split at ev
    · rename_i hp
      cases e with
      | v j =>
        simp only at ev
        split at ev
        · rename_i n f d sl
          cases x with
          | Name y py =>
            obtain ⟨a, s1, ow⟩ := S.ev.ow j n f d sl
            refine SA.of (pa_cons (name_pe C (by simpa only [mtE] using m1)) pa_S rfl) ⟨_, s1, ?_⟩
            rcases bnd_inv ev with ⟨c, e1, rfl⟩ | ⟨ds, e1, e2⟩
            · exact ma_run C m3 S e1 (fun _ z => by cases z) (errTo er)
            · cases e2
              exact ma_run C m3 S e1 (fun ds' z vs H2 g t => by cases z; exact q _ rfl _ H2 g (.mu hp sl s1 t)) (fun _ z => by cases z)
          | _ => simp [mtE] at m1
        · cases ev
      | _ => cases ev
    · rename_i hp
      refine SA.of (pa_cons pe_S pa_S (star_eq m2)) ?_
      rcases bnd_inv ev with ⟨c, e1, rfl⟩ | ⟨⟨kd, d⟩, e1, e2⟩
      · exact (etE ft e x m1).1 X W _ σ H env _ _ (S.at C) e1 (fun _ z => by cases z) (errTo er)
      · refine (etE ft e x m1).1 X W _ σ H env _ _ (S.at C) e1 (fun p' z v H2 g vr => ?_) (fun _ z => by cases z)
        cases z
        have S2 := S.grow g
        rcases bnd_inv e2 with ⟨c, e3, rfl⟩ | ⟨ds, e3, e4⟩
        · exact ma_run C m3 S2 e3 (fun _ z => by cases z) (fun c z => (errTo er c z).gr g)
        · cases e4
          refine ma_run C m3 S2 e3 (fun ds' z vs H3 g3 t => ?_) (fun _ z => by cases z)
          cases z
          exact q _ rfl _ H3 (g.trans g3) (.sh hp ((vr.1.gr g3).less ((S2.fb C).up (fun z => by cases z))) t)
theorem putMu_inv : ∀ {js : List Nat} {ms : List R.D} {env env2 : Env1}, putMu env js ms = some env2 → js.Nodup → env2.length = env.length ∧ (∀ i, i ∉ js → env2[i]? = env[i]?) ∧
    ∀ (t j : Nat), js[t]? = some j → ∃ n f d m, env[j]? = some (Slot.ow n f d) ∧ ms[t]? = some m ∧ isLD m = true ∧ env2[j]? = some (Slot.ow n (noMutI m) m)
  | [], [], env, env2, h, _ => by cases h; exact ⟨rfl, fun _ _ => rfl, fun t j h => by simp at h⟩
  | [], _ :: _, _, _, h, _ => by cases h
  | _ :: _, [], _, _, h, _ => by cases h
  | j0 :: js, m0 :: ms, env, env2, h, nd => by
    simp only [putMu] at h
    split at h
    · rename_i n f d sl
      split at h
      · rename_i hl
        have nd' := List.nodup_cons.mp nd
        obtain ⟨l, o, i⟩ := putMu_inv h nd'.2
        have hj : j0 < env.length := (List.getElem?_eq_some_iff.mp sl).1
        refine ⟨by rw [l, List.length_set], fun x hx => ?_, fun t j ht => ?_⟩
        · rw [o x (fun z => hx (List.mem_cons_of_mem _ z)), List.getElem?_set_ne (fun z => hx (by rw [← z]; exact List.mem_cons_self))]
        · cases t with
          | zero =>
            simp at ht
            subst ht
            exact ⟨n, f, d, m0, sl, rfl, hl, by rw [o j0 nd'.1, List.getElem?_set_self hj]⟩
          | succ t =>
            have ht' : js[t]? = some j := by simpa using ht
            obtain ⟨n', f', d', m', q1, q2, q3, q4⟩ := i t j ht'
            have hne : j0 ≠ j := fun z => nd'.1 (by rw [z]; exact List.mem_of_getElem? ht')
            rw [List.getElem?_set_ne hne] at q1
            exact ⟨n', f', d', m', q1, by simpa using q2, q3, q4⟩
      · cases h
    · cases h
theorem OwAt.freeI {K : PySem.W.Frag} {O O' : Addr → Prop} {a : Addr} {d : R.D} (h : OwAt K H O a d) (e : noMutI d = true) : OwAt K H O' a d := by
  cases h with
  | lst q r => exact .lst q (r.free (by simpa only [noMutI] using e))
  | dct q r => exact .dct q (r.free (by simpa only [noMutI] using e))
/-- the call, from its arguments on -/
theorem mc_fin {s : FSpec} {es : XL} {vs : List V} {ds : List R.D} {r0 : Except Str (R.D × List R.D)} {Q : VK} {E : XK} (C : DC ft k N tabs W sc H₀ O₀ M X) (S : SV tabs X H₀ O₀ M mu0 σ H env)
    (hn : ds.length = s.n) (nd : ((muPr s.mu 0 es).map (·.2)).Nodup) (hmu : (muPr s.mu 0 es).map (·.1) = s.mu) (ma : MArgs X.K H (Fbs H₀ O₀ σ env false) σ env s.mu 0 es vs ds) (hF : s.F ds = some r0)
    (q : ∀ d ms e1, r0 = .ok (d, ms) → putMu env ((muPr s.mu 0 es).map (·.2)) ms = some e1 → ∀ v H2, SV tabs X H₀ O₀ M mu0 σ H2 e1 → Fr σ env H σ e1 H2 → VR X.K (Fbs H₀ O₀ σ env) H H2 ⟨s.kd.own, s.kd.fr || noMut d⟩ v d → Q v H2)
    (hput : ∀ d ms, r0 = .ok (d, ms) → ∃ e1, putMu env ((muPr s.mu 0 es).map (·.2)) ms = some e1)
    (er : ∀ c, r0 = .error c → ∀ C : Addr, X.mg c = some (Value.ref C) → ∀ H2, GrM M H₀ H2 → E (Value.ref C) none H2) : spD X.K X.mg tabs s vs H Q E := by
  have at_ : ∀ (t i : Nat), s.mu[t]? = some i → ∃ (j : Nat) (a : Addr) (n f : Bool) (d : R.D), ((muPr s.mu 0 es).map (·.2))[t]? = some j ∧ vs[i]? = some (V.ref a) ∧ ds[i]? = some d ∧ env[j]? = some (Slot.ow n f d) ∧ σ[j]? = some (some (V.ref a)) := by
    intro t i ht
    rw [← hmu, List.getElem?_map] at ht
    cases e : (muPr s.mu 0 es)[t]? with
    | none => rw [e] at ht; cases ht
    | some pr =>
      obtain ⟨i0, j⟩ := pr
      rw [e] at ht; cases ht
      obtain ⟨i', a, n, f, d, e1, e2, e3, e4, e5⟩ := ma.pr i0 j (List.mem_of_getElem? e)
      have e1' : i0 = i' := by omega
      subst e1'
      exact ⟨j, a, n, f, d, by rw [List.getElem?_map, e]; rfl, e2, e3, e4, e5⟩
  have atm : ∀ i, i ∈ s.mu → ∃ t : Nat, s.mu[t]? = some i := fun i hi => by
    obtain ⟨t, ht, e⟩ := List.getElem_of_mem hi
    exact ⟨t, by rw [List.getElem?_eq_getElem ht, e]⟩
  have fb := S.fb C
  have mOwn : ∀ a, MuA s.mu vs a → ∃ j, j ∈ (muPr s.mu 0 es).map (·.2) ∧ OwnI σ env j a := by
    rintro a ⟨i, hi, hv⟩
    obtain ⟨t, ht⟩ := atm i hi
    obtain ⟨j, b, n, f, d, q1, q2, q3, q4, q5⟩ := at_ t i ht
    rw [hv] at q2; cases q2
    exact ⟨j, List.mem_of_getElem? q1, n, f, d, q4, q5⟩
  have toM : ∀ {H2 : Hp}, GrM (MuA s.mu vs) H H2 → GrM M H₀ H2 := fun {H2} g => by
    refine ⟨fun a o e m t => g.keep a o (S.gr.keep a o e m t) (fun z => ?_) t, fun P h => g.tabs P (S.gr.tabs P h), fun a h => g.there a (S.gr.there a h), fun a xs h => g.tups a xs (S.gr.tups a xs h), fun a o u h => g.frzs a o u (S.gr.frzs a o u h), fun a o u h => S.gr.unfz a o u (g.unfz a o u h)⟩
    obtain ⟨j, _, n, f, d, q1, q2⟩ := mOwn a z
    cases n with
    | true => rw [S.nw j f d a q1 q2] at e; cases e
    | false => exact m (S.od j f d a q1 q2)
  refine ⟨ds, Fbs H₀ O₀ σ env false, r0, by rw [ma.len]; exact hn, hn, fun a z => fb.at false a z, fun a z => ?_, S.tb, fun i v d hi e1 e2 => ma.shs i v d (by simpa using hi) e1 e2, fun i d hi e => ?_, fun i j a hi hj e1 e2 => ?_, hF, fun d ms e v H2 g vr hms => ?_, fun c e Ca hC H2 g => er c e Ca hC H2 (toM g)⟩
  · obtain ⟨j, _, h⟩ := mOwn a z
    exact .inr ⟨j, h⟩
  · obtain ⟨t, ht⟩ := atm i hi
    obtain ⟨j, a, n, f, d', q1, q2, q3, q4, q5⟩ := at_ t i ht
    rw [e] at q3; cases q3
    obtain ⟨b, q6, ow⟩ := S.ev.ow j n f d q4
    rw [q5] at q6; cases q6
    exact ⟨a, q2, ow.less (fb.up (fun z => by cases z))⟩
  · obtain ⟨t, ht⟩ := atm i hi
    obtain ⟨t', ht'⟩ := atm j hj
    obtain ⟨x, a1, n1, f1, d1, p1, p2, p3, p4, p5⟩ := at_ t i ht
    obtain ⟨y, a2, n2, f2, d2, r1, r2, r3, r4, r5⟩ := at_ t' j ht'
    rw [e1] at p2; cases p2
    rw [e2] at r2; cases r2
    have exy := S.inj x y a ⟨_, _, _, p4, p5⟩ ⟨_, _, _, r4, r5⟩
    subst exy
    have ett : t = t' := nd_ix nd p1 r1
    subst ett
    rw [ht] at ht'
    exact Option.some.inj ht'
  · obtain ⟨e1, he1⟩ := hput d ms e
    obtain ⟨l, o, inn⟩ := putMu_inv he1 nd
    have g2 : GrM (fun a => ∃ j, j ∈ (muPr s.mu 0 es).map (·.2) ∧ OwnI σ env j a) H H2 := g.mono fun a z => mOwn a z
    have tt : ∀ j, j ∈ (muPr s.mu 0 es).map (·.2) → ∃ (t i : Nat), ((muPr s.mu 0 es).map (·.2))[t]? = some j ∧ s.mu[t]? = some i := by
      intro j hj
      obtain ⟨t, ht, e⟩ := List.getElem_of_mem hj
      have ht2 : t < (muPr s.mu 0 es).length := by rwa [List.length_map] at ht
      refine ⟨t, (muPr s.mu 0 es)[t].1, by rw [List.getElem?_eq_getElem ht, e], ?_⟩
      have : ((muPr s.mu 0 es).map (·.1))[t]? = some (muPr s.mu 0 es)[t].1 := by rw [List.getElem?_map, List.getElem?_eq_getElem ht2]; rfl
      rw [hmu] at this
      exact this
    obtain ⟨S2, F2⟩ := S.change C ((muPr s.mu 0 es).map (·.2)) g2 l o (fun j a hj ha => by
      obtain ⟨t, i, ht, hi⟩ := tt j hj
      obtain ⟨n, f, d', m, q1, q2, q3, q4⟩ := inn t j ht
      obtain ⟨j', b, n', f', d'', p1, p2, p3, p4, p5⟩ := at_ t i hi
      rw [ht] at p1; cases p1
      obtain ⟨_, _, _, _, ha2⟩ := ha
      rw [p5] at ha2; cases ha2
      obtain ⟨m', hm', ow⟩ := hms t i a hi p2
      rw [q2] at hm'; cases hm'
      refine ⟨n, f, d', noMutI m, m, q1, q4, ?_⟩
      cases z : noMutI m with
      | true => exact ow.freeI z
      | false => exact ow) (fun j hj => by
      obtain ⟨t, i, ht, hi⟩ := tt j hj
      obtain ⟨j', b, n', f', d'', p1, p2, p3, p4, p5⟩ := at_ t i hi
      rw [ht] at p1; cases p1
      exact ⟨b, n', f', d'', p4, p5⟩)
    exact q d ms e1 e he1 v H2 S2 F2 (VR.call fb vr)
end R
namespace R
open PySem PySem.Spec PyProof.Rows L2
variable {ft : FT} {k : Nat} {N : List Str} {tabs : List Addr} {W : WX} {sc : Scope} {H₀ : Hp} {O₀ M : Addr → Prop} {mu0 : Nat → Addr → Prop} {X : Cx} {σ σ' σ2 : L2.St} {H H' H1 H2 : Hp} {env env' env2 : Env1}
theorem putMu_own {js : List Nat} {ms : List R.D} (h : putMu env js ms = some env2) (nd : js.Nodup) (a : Addr) (z : Own σ env2 a) : Own σ env a := by
  obtain ⟨l, o, inn⟩ := putMu_inv h nd
  obtain ⟨j, n, f, d, q1, q2⟩ := z
  by_cases hj : j ∈ js
  · obtain ⟨t, ht, e⟩ := List.getElem_of_mem hj
    obtain ⟨n', f', d', m, p1, _⟩ := inn t j (by rw [List.getElem?_eq_getElem ht, e])
    exact ⟨j, n', f', d', p1, q2⟩
  · exact ⟨j, n, f, d, by rw [← o j hj]; exact q1, q2⟩
theorem call_mc {f x : Str} {es : XL} {e : Expr} {l : List Expr} {p pos : Pos} {s : FSpec} {G : R.D × List R.D → Env1 → Option Oc} {oc : Oc} {Dn : Ends} {Q : VK} (hg : gnB sc f x = true) (hm : mtL N sc es (e :: l) = true) (C : DC ft k N tabs W sc H₀ O₀ M X) (S : SV tabs X H₀ O₀ M mu0 σ H env)
    (hs : ft.fn f = some s) (ev : (exO (evMA ft s.mu 0 es env) fun ds => if ds.length = s.n ∧ ((muPr s.mu 0 es).map (·.2)).Nodup ∧ (muPr s.mu 0 es).map (·.1) = s.mu then
          exO (s.F ds) fun r => (putMu env ((muPr s.mu 0 es).map (·.2)) r.2).bind fun e1 => G r e1 else none) = some oc) (p0 : Post tabs X W H₀ O₀ M mu0 σ env H Dn oc)
    (q : ∀ d ms e1, G (d, ms) e1 = some oc → ∀ v H2, SV tabs X H₀ O₀ M mu0 σ H2 e1 → Fr σ env H σ e1 H2 → VR X.K (forb H₀ O₀) H₀ H2 ⟨s.kd.own, s.kd.fr || noMut d⟩ v d → Rp X.K H2 (Fbs H₀ O₀ σ e1 (s.kd.fr || noMut d)) v d → Q v H2) :
    SE X (.Call (.Name x p) (e :: l) [] pos) σ H Q := by
  obtain ⟨rfl, hgl, hd, _⟩ := gn_inv hg
  have star := mtL_star hm
  obtain ⟨a, fd, ps, mg, hk, hb, hps, F⟩ := C.gc.fn f s hs
  have pe : ∀ (E : L2.St → XK), (∀ σ, PassesAt (CX X.prog X.w) X σ (E σ)) → PE X (.Call (.Name f p) (e :: l) [] pos) (tCallS (spD X.K X.mg tabs s) E (SA X (e :: l))) := fun E hE =>
    pe_callS F C.gc.room (C.gc.glb f hgl) mg hk hb hE pa_S hd (star_eq (star e List.mem_cons_self)) (star_any fun x hx => star x (List.mem_cons_of_mem _ hx))
  rcases exO_inv ev with ⟨c, e1, rfl⟩ | ⟨ds, e1, e2⟩
  · exact SE.of (pe _ fun σ => passF) (ma_run C hm S e1 (fun _ z => by cases z) (fun c' z => by cases z; exact p0.err S))
  · split at e2
    · rename_i cnd
      rcases exO_inv e2 with ⟨c, e3, rfl⟩ | ⟨⟨d, ms⟩, e3, e4⟩
      · refine SE.of (pe _ fun σ => passAt C.gc.tk σ) (ma_run C hm S e1 (fun p z vs H2 g ma => ?_) (fun _ z => by cases z))
        cases z
        exact mc_fin C (S.grow g) cnd.1 cnd.2.1 cnd.2.2 ma e3 (fun _ _ _ z => by cases z) (fun _ _ z => by cases z) fun c' z Ca hC H3 g3 => by
          cases z
          exact p0 Ca hC σ H3 g3
      · refine SE.of (pe _ fun σ => passF) (ma_run C hm S e1 (fun p z vs H2 g ma => ?_) (fun _ z => by cases z))
        cases z
        have hput : ∃ e1, putMu env ((muPr s.mu 0 es).map (·.2)) ms = some e1 := by
          cases z : putMu env ((muPr s.mu 0 es).map (·.2)) ms with
          | none =>
            have e4' : (putMu env ((muPr s.mu 0 es).map (·.2)) ms).bind (fun e1 => G (d, ms) e1) = some oc := e4
            rw [z] at e4'; cases e4'
          | some e1 => exact ⟨e1, rfl⟩
        refine mc_fin C (S.grow g) cnd.1 cnd.2.1 cnd.2.2 ma e3 (fun d' ms' en z hp v H3 S3 F3 vr => ?_) (fun d' ms' z => by cases z; exact hput) fun c' z Ca hC H3 g3 => by cases z
        cases z
        have e4' : (putMu env ((muPr s.mu 0 es).map (·.2)) ms).bind (fun e1 => G (d, ms) e1) = some oc := e4
        rw [hp] at e4'
        refine q d ms en e4' v H3 S3 ((Fr.of_gr g).trans F3) (vr_forb (S.grow g) vr) (vr.1.less fun a z => ?_)
        rcases z with z | z
        · exact .inl z
        · exact .inr (putMu_own hp cnd.2.1 a z)
    · cases e2
end R
namespace R
open PySem PySem.Spec PyProof.Rows L2
variable {ft : FT} {k : Nat} {N : List Str} {tabs : List Addr} {W : WX} {sc : Scope} {H₀ : Hp} {O₀ M : Addr → Prop} {mu0 : Nat → Addr → Prop} {X : Cx} {σ σ' σ2 : L2.St} {H H' H1 H2 : Hp} {env env' env2 : Env1}
theorem evMc_inv {dd : Ds} {f : Str} {es : XL} {oc : Oc} (h : evSt ft (.mc dd f es) env = some oc) : ∃ s, ft.fn f = some s ∧ (exO (evMA ft s.mu 0 es env) fun ds => if ds.length = s.n ∧ ((muPr s.mu 0 es).map (·.2)).Nodup ∧ (muPr s.mu 0 es).map (·.1) = s.mu then
          exO (s.F ds) fun r => (putMu env ((muPr s.mu 0 es).map (·.2)) r.2).bind fun e1 => mcEnd dd ⟨s.kd.own, s.kd.fr || noMut r.1⟩ r.1 e1 else none) = some oc := by
  simp only [evSt] at h
  cases e : ft.fn f with
  | none => rw [e] at h; cases h
  | some s => rw [e] at h; exact ⟨s, rfl, h⟩
theorem ss_mcDrop {f x : Str} {es : XL} {e : Expr} {l : List Expr} {p pos q : Pos} (hg : gnB sc f x = true) (hm : mtL N sc es (e :: l) = true) : SSt ft k N tabs sc (.mc .drop f es) (.Expr (.Call (.Name x p) (e :: l) [] pos) q) := by
  intro X W H₀ O₀ M mu0 σ H env oc Dn C S ev p0
  obtain ⟨s, hs, ev⟩ := evMc_inv ev
  refine SD.of (ps_expr pe_S (sw_false rfl)) (call_mc (G := fun r e1 => mcEnd .drop ⟨s.kd.own, s.kd.fr || noMut r.1⟩ r.1 e1) hg hm C S hs ev p0 fun d ms e1 z v H2 S2 F2 vr r => ?_)
  cases z
  exact p0 _ _ S2 F2
theorem ss_mcSet {i : Nat} {f x y : Str} {es : XL} {e : Expr} {l : List Expr} {p pos py q : Pos} (hn : nameB N sc i y = true) (hg : gnB sc f x = true) (hm : mtL N sc es (e :: l) = true) :
    SSt ft k N tabs sc (.mc (.set i) f es) (.Assign [.Name y py] (.Call (.Name x p) (e :: l) [] pos) q) := by
  intro X W H₀ O₀ M mu0 σ H env oc Dn C S ev p0
  obtain ⟨s, hs, ev⟩ := evMc_inv ev
  obtain ⟨n1, n2⟩ := name_at C hn
  refine SD.of (ps_set (i := i) C.ndN n1 n2 pe_S (sw_false rfl) (.inl (C.fn y))) (call_mc (G := fun r e1 => mcEnd (.set i) ⟨s.kd.own, s.kd.fr || noMut r.1⟩ r.1 e1) hg hm C S hs ev p0 fun d ms e1 z v H2 S2 F2 vr r => ?_)
  simp only [mcEnd] at z
  split at z
  · cases z
  · obtain ⟨e3, e4, rfl⟩ := map_inv z
    obtain ⟨S3, F3, _⟩ := S2.put C GrM.refl (VR.al r) e4
    exact p0 _ _ S3 (F2.trans F3)
theorem ss_mcUnp {is : List Nat} {f x : Str} {es : XL} {ts : List Expr} {e : Expr} {l : List Expr} {kt : Nat} {p pos pt q : Pos} (hn : tgsB N sc is ts = true) (hg : gnB sc f x = true) (hm : mtL N sc es (e :: l) = true) :
    SSt ft k N tabs sc (.mc (.unp is) f es) (.Assign [.Tuple ts kt pt] (.Call (.Name x p) (e :: l) [] pos) q) := by
  intro X W H₀ O₀ M mu0 σ H env oc Dn C S ev p0
  obtain ⟨s, hs, ev⟩ := evMc_inv ev
  obtain ⟨l1, l2⟩ := tgs_len (e := X.env) hn
  refine SD.of (ps_asg pe_S (pg_tup (n := is.length) C.gc.calm (pgs_names C hn) l1 l2) rfl rfl rfl) (call_mc (G := fun r e1 => mcEnd (.unp is) ⟨s.kd.own, s.kd.fr || noMut r.1⟩ r.1 e1) hg hm C S hs ev p0 fun d ms e1 z v H2 S2 F2 vr r => ?_)
  simp only [mcEnd] at z
  cases d with
  | tuple ds =>
    simp only at z
    split at z
    · rename_i hl
      obtain ⟨e3, e4, rfl⟩ := map_inv z
      cases r with
      | tup ht t =>
        rename_i a vs
        exact ⟨a, vs, rfl, ht, by rw [t.length]; exact hl, gNs_run C S2 t e4 fun σ' S' F' => p0 _ _ S' (F2.trans F')⟩
    · cases z
  | _ => cases z
theorem ss_mcRet {f x : Str} {es : XL} {e : Expr} {l : List Expr} {p pos q : Pos} (hg : gnB sc f x = true) (hm : mtL N sc es (e :: l) = true) : SSt ft k N tabs sc (.mc .ret f es) (.Return (some (.Call (.Name x p) (e :: l) [] pos)) q) := by
  intro X W H₀ O₀ M mu0 σ H env oc Dn C S ev p0
  obtain ⟨s, hs, ev⟩ := evMc_inv ev
  refine SD.of (ps_ret pe_S) (call_mc (G := fun r e1 => mcEnd .ret ⟨s.kd.own, s.kd.fr || noMut r.1⟩ r.1 e1) hg hm C S hs ev p0 fun d ms e1 z v H2 S2 F2 vr r => ?_)
  cases z
  exact p0 v _ _ S2 F2 vr
end R
namespace R
open PySem PySem.Spec PyProof.Rows L2
variable {ft : FT} {k : Nat} {N : List Str} {tabs : List Addr}
/-! ### a told state is changed: P[1].append(0); P[2][z] = 0 -/
theorem wreck_run {X : Cx} {D : Ends} {σ : L2.St} {H : Hp} {pe pe' ke : Expr} {tp tp' tk : TE} {t a1 a2 : Addr} {v0 : V} {vs : List V} {kvs : List (Key × V)} {z : Int} {j1 j2 j3 j4 : Nat} {q1 q2 q3 q4 apos cpos pos pos2 s1 s2 ipos : Pos} {rest : List Stmt}
    (hu : X.A.units + 1 < cLine) (pP : PE X pe tp) (pP' : PE X pe' tp') (pK : PE X ke tk) (hP : ∀ Q, Q (V.ref t) H → tp σ H Q) (hP' : ∀ Q, Q (V.ref t) (upd H a1 (.lst (vs ++ [.int 0]))) → tp' σ (upd H a1 (.lst (vs ++ [.int 0]))) Q) (hK : ∀ H' Q, Q (V.int z) H' → tk σ H' Q)
    (hT : SqT X.K H t [v0, .ref a1, .ref a2]) (hT' : SqT X.K (upd H a1 (.lst (vs ++ [.int 0]))) t [v0, .ref a1, .ref a2]) (h1 : H a1 = some (.lst vs)) (hz : vs.length < sizeLine) (h2 : H a2 = some (.dK kvs)) (hk : kvs.length < sizeLine)
    (hl : (apos.endLine == cpos.line) = true) (hs : noSl ke = true)
    (q : SDs X rest D σ (upd (upd H a1 (.lst (vs ++ [.int 0]))) a2 (.dK (putK kvs (.inl z) (.int 0))))) :
    SDs X (.Expr (.Call (.Attribute (.Subscript pe (.Constant (.int 1) j1 q1) s1) "append" apos) [.Constant (.int 0) j2 q2] [] cpos) pos ::
      .Assign [.Subscript (.Subscript pe' (.Constant (.int 2) j3 q3) s2) ke ipos] (.Constant (.int 0) j4 q4) pos2 :: rest) D σ H := by
  have n12 : a2 ≠ a1 := fun e => by rw [e, h1] at h2; cases h2
  have h2' : (upd H a1 (.lst (vs ++ [.int 0]))) a2 = some (.dK kvs) := by rw [upd_ne n12]; exact h2
  have st1 : PS X (.Expr (.Call (.Attribute (.Subscript pe (.Constant (.int 1) j1 q1) s1) "append" apos) [.Constant (.int 0) j2 q2] [] cpos) pos) _ :=
    ps_expr (pe_bm PySem.F.plainAttrs_list PySem.F.slot_list_append PySem.F.type_list_append mt_append (pe_ix ix_tup pP pe_int (fun _ _ => rfl)) (pa_cons pe_int pa_nil (star_eq rfl)) rfl (meth_few rfl) hl (star_eq rfl) rfl) rfl
  have st2 : PS X (.Assign [.Subscript (.Subscript pe' (.Constant (.int 2) j3 q3) s2) ke ipos] (.Constant (.int 0) j4 q4) pos2) _ :=
    ps_dput hu (pe_ix ix_tup pP' pe_int (fun _ _ => rfl)) pK pe_int rfl
  refine SDs.of (pss_cons st1 (pss_cons st2 pss_S)) ?_
  refine hP _ ⟨t, _, 1, .ref a1, rfl, rfl, hT, rfl, .inl ⟨rfl, _, SqL.of h1⟩, ?_⟩
  refine ⟨a1, vs, .int 0, rfl, rfl, h1, hz, ?_⟩
  refine hP' _ ⟨t, _, 2, .ref a2, rfl, rfl, hT', rfl, hK _ _ ⟨a2, _, rfl, (DPut.k (k := (.inl z : Key)) h2' hk : DPut _ a2 (kV (.inl z)) (.int 0) _), q⟩⟩
end R
namespace R
open PySem PySem.Spec PyProof.Rows L2
variable {ft : FT} {k : Nat} {N : List Str} {tabs : List Addr} {sc : Scope}
/-! ### the end of a law: what was told last is looked at, changed, left -/
theorem EV.see {K : PySem.W.Frag} {H : Hp} {Fb : Bool → Addr → Prop} {σ : L2.St} {env : Env1} {i : Nat} {v : V} {d : R.D} {f : Bool} (h : EV K H Fb σ env) (hs : σ[i]? = some (some v)) (r : Rp K H (Fb f) v d) : EV K H Fb σ (env.set i (.sh f d)) := by
  have e : σ.set i (some v) = σ := by
    apply List.ext_getElem?
    intro j
    by_cases z : j = i
    · subst z
      rw [List.getElem?_set_self (List.getElem?_eq_some_iff.mp hs).1, hs]
    · rw [List.getElem?_set_ne (Ne.symm z)]
  have := h.put (i := i) (f := f) r
  rw [e] at this
  exact this
theorem EV.less {K : PySem.W.Frag} {H : Hp} {Fb Fb' : Bool → Addr → Prop} {σ : L2.St} {env : Env1} (h : EV K H Fb σ env) (l : ∀ f a, Fb' f a → Fb f a) : EV K H Fb' σ env :=
  ⟨h.len, fun i f d e => let ⟨v, a, r⟩ := h.sh i f d e; ⟨v, a, r.less (l f)⟩, fun i n f d e => let ⟨a, b, o⟩ := h.ow i n f d e; ⟨a, b, o.less (l f)⟩⟩
/-- sealed: x's own part P is reached by nothing else -/
structure Seal (X : Cx) (tabs : List Addr) (P : Addr → Prop) (Hs : Hp) (i : Nat) (v : V) (d : R.D) (σ : L2.St) (H : Hp) (env : Env1) : Prop where
  ev : EV X.K H (fun _ => P) σ env
  hx : σ[i]? = some (some v)
  rx : Rp X.K H (fun a => ¬ P a) v d
  there : ∀ a, P a → H a ≠ none
  unfz : ∀ a, P a → ∀ o u, H a ≠ some (.frz o u)
  gr : Gr Hs H
  tb : TB tabs H
  sh : ∀ (j : Nat) n f d, env[j]? ≠ some (Slot.ow n f d)
  new : ∀ a, P a → Hs a = none
theorem Seal.grow {X : Cx} {P : Addr → Prop} {Hs H H2 : Hp} {i : Nat} {v : V} {d : R.D} {σ : L2.St} {env : Env1} (S : Seal X tabs P Hs i v d σ H env) (g : Gr H H2) : Seal X tabs P Hs i v d σ H2 env :=
  ⟨S.ev.gr g, S.hx, S.rx.gr g, fun a h => g.there a (S.there a h), fun a h o u e => S.unfz a h o u (g.unfz a o u e), S.gr.trans g, S.tb.gr g, S.sh, S.new⟩
structure TK (X : Cx) (W : WX) (Hs : Hp) (D : Ends) (r : Except Str R.D) : Prop where
  ok : ∀ d, r = .ok d → ∀ v H', Gr Hs H' → noMut d = true → Rp X.K H' (fun _ => False) v d → D.rt v H'
  er : ∀ c, r = .error c → ∀ C : Addr, X.mg c = some (Value.ref C) → ∀ σ' H', Gr Hs H' → W (Value.ref C) none σ' H'
section
variable {X : Cx} {W : WX} {P : Addr → Prop} {Hs H : Hp} {i : Nat} {v : V} {d : R.D} {σ : L2.St} {env : Env1} {D : Ends} {r : Except Str R.D}
theorem Seal.at (S : Seal X tabs P Hs i v d σ H env) (gc : GC ft k N tabs W X sc) : At ft k N tabs X W sc (fun _ => P) σ H env := ⟨gc, S.ev, ⟨fun _ z => z, fun a z => S.there a z⟩, S.tb⟩
theorem Seal.atX (S : Seal X tabs P Hs i v d σ H env) (gc : GC ft k N tabs W X sc) : At ft k N tabs X W sc (fun _ _ => False) σ H (env.set i (.sh false d)) :=
  ⟨gc, (S.ev.less (Fb' := fun _ _ => False) (fun _ _ z => z.elim)).see S.hx (S.rx.less fun _ z => z.elim), ⟨fun _ z => z, fun _ z => z.elim⟩, S.tb⟩
theorem TK.err {c : Str} (h : TK X W Hs D (.error c)) (g : Gr Hs H) : ErrOk X W σ H c := fun C hC H2 g2 => h.er c rfl C hC σ H2 (g.trans g2)
/-- the last: a return of a plain thing -/
theorem tl_ret {Fb : Bool → Addr → Prop} {x : R.X} {e : Expr} {pos : Pos} (hel : ES ft k N tabs sc x e) (A : At ft k N tabs X W sc Fb σ H env) (g : Gr Hs H) (ev : (bnd (evE ft x env) fun q => if noMut q.2 = true then ok q.2 else none) = some r) (K : TK X W Hs D r) :
    SD X (.Return (some e) pos) D σ H := by
  refine SD.of (ps_ret pe_S) ?_
  rcases bnd_inv ev with ⟨c, e1, rfl⟩ | ⟨⟨kd, d1⟩, e1, e2⟩
  · exact hel X W Fb σ H env _ _ A e1 (fun _ z => by cases z) (fun c' z => by cases z; exact K.err g)
  · simp only at e2
    split at e2
    · rename_i hn
      cases e2
      refine hel X W Fb σ H env _ _ A e1 (fun q z v' H2 g2 vr => ?_) (fun _ z => by cases z)
      cases z
      exact K.ok _ rfl v' H2 (g.trans g2) hn (vr.1.free hn)
    · cases e2
theorem sds_one {st : Stmt} (h : SD X st D σ H) : SDs X [st] D σ H := SDs.of (pss_one ps_S) h
theorem tl_set {j : Nat} {x : R.X} {t : T} {y : Str} {py pos : Pos} {e : Expr} {rest : List Stmt} (hn : nameB N sc j y = true) (hc : noComp e = true) (hel : ES ft k N tabs sc x e) (ndN : X.N.Nodup) (gc : GC ft k N tabs W X sc) (sce : X.env.scope = sc) (fn : ∀ x, X.fn x = true)
    (S : Seal X tabs P Hs i v d σ H env) (ev : evTl ft i (.set j x t) env d = some r) (K : TK X W Hs D r)
    (ih : ∀ {σ' : L2.St} {H' : Hp} {env' : Env1}, Seal X tabs P Hs i v d σ' H' env' → evTl ft i t env' d = some r → SDs X rest D σ' H') : SDs X (.Assign [.Name y py] e pos :: rest) D σ H := by
  simp only [nameB, Bool.and_eq_true, decide_eq_true_eq] at hn
  have n1 : X.N[j]? = some y := by rw [gc.hN]; exact hn.1
  have n2 : Loc X.env.scope y := by rw [sce]; exact asg_loc hn.2
  refine SDs.of (pss_cons (ps_set (i := j) ndN n1 n2 pe_S (sw_false hc) (.inl (fn y))) pss_S) ?_
  rcases bnd_inv (show (bnd (evE ft x env) fun q => if j ≠ i ∧ j < env.length then evTl ft i t (env.set j (.sh false q.2)) d else none) = some r from ev) with ⟨c, e1, rfl⟩ | ⟨⟨kd, d1⟩, e1, e2⟩
  · exact hel X W _ σ H env _ _ (S.at gc) e1 (fun _ z => by cases z) (fun c' z => by cases z; exact K.err S.gr)
  · simp only at e2
    split at e2
    · rename_i hj
      refine hel X W _ σ H env _ _ (S.at gc) e1 (fun q z v' H2 g2 vr => ?_) (fun _ z => by cases z)
      cases z
      have S2 := S.grow g2
      exact ih ⟨S2.ev.put vr.1, by rw [List.getElem?_set_ne hj.1]; exact S2.hx, S2.rx, S2.there, S2.unfz, S2.gr, S2.tb, fun l n f d' z => by
        by_cases y : l = j
        · subst y
          rw [List.getElem?_set_self hj.2] at z; cases z
        · rw [List.getElem?_set_ne (Ne.symm y)] at z
          exact S2.sh l n f d' z, S2.new⟩ e2
    · cases e2
theorem tl_tst {c x : R.X} {t : T} {ec e : Expr} {pos pos' : Pos} {rest : List Stmt} (hc : TS' ft k N tabs sc c ec) (hel : ES ft k N tabs sc x e) (gc : GC ft k N tabs W X sc)
    (S : Seal X tabs P Hs i v d σ H env) (ev : evTl ft i (.tst c x t) env d = some r) (K : TK X W Hs D r)
    (ih : ∀ {H' : Hp}, Seal X tabs P Hs i v d σ H' env → evTl ft i t env d = some r → SDs X rest D σ H') : SDs X (.If ec [.Return (some e) pos'] [] pos :: rest) D σ H := by
  refine SDs.of (pss_cons (ps_if pt_S pss_S pss_S) pss_S) ?_
  rcases bnd_inv (show (bnd (evT ft c (env.set i (.sh false d))) fun b => if b = true then bnd (evE ft x (env.set i (.sh false d))) fun q => if noMut q.2 = true then ok q.2 else none else evTl ft i t env d) = some r from ev) with ⟨c0, e1, rfl⟩ | ⟨b, e1, e2⟩
  · exact hc X W _ σ H _ _ _ (S.atX gc) e1 (fun _ z => by cases z) (fun c' z => by cases z; exact K.err S.gr)
  · refine hc X W _ σ H _ _ _ (S.atX gc) e1 (fun b' z H2 g2 => ?_) (fun _ z => by cases z)
    cases z
    have S2 := S.grow g2
    cases b with
    | true =>
      rw [if_pos rfl] at e2 ⊢
      exact sds_one (tl_ret hel (S2.atX gc) S2.gr e2 ⟨K.ok, K.er⟩)
    | false =>
      rw [if_neg (by decide)] at e2 ⊢
      exact SDs.of pss_nil (ih S2 e2)
/-- the key that is written: 0, or 0 - 1 -/
def keyB (neg : Bool) : Expr → Bool
  | .Constant (.int z) _ _ => !neg && z == 0
  | .BinOp (.Constant (.int a) _ _) .Sub (.Constant (.int b) _ _) _ => neg && a == 0 && b == 1
  | _ => false
theorem keyB_pe {neg : Bool} {ke : Expr} (h : keyB neg ke = true) : noSl ke = true ∧ ∃ z tk, PE X ke tk ∧ ∀ σ H' Q, Q (V.int z) H' → tk σ H' Q := by
  unfold keyB at h
  split at h
  · exact ⟨rfl, _, _, pe_int, fun σ H' Q q => q⟩
  · exact ⟨rfl, _, _, pe_op op_sub pe_int pe_int, fun σ H' Q q => ⟨_, _, rfl, rfl, q⟩⟩
  · cases h
/-- the state that x is -/
theorem wrk_parts {K : PySem.W.Frag} {e0 : R.D} {fs : List R.D} {es : List (R.D × R.D)} (u : ∀ a, P a → ∀ o u, H a ≠ some (.frz o u)) (r : Rp K H (fun a => ¬ P a) v (.tuple [e0, .list fs, .dict es])) :
    ∃ (t a1 a2 : Addr) (v0 : V) (vs : List V) (kvs : List (Key × V)), v = .ref t ∧ SqT K H t [v0, .ref a1, .ref a2] ∧ H a1 = some (.lst vs) ∧ vs.length = fs.length ∧ P a1 ∧ H a2 = some (.dK kvs) ∧ kvs.length = es.length ∧ P a2 := by
  cases r with
  | tup hl rr =>
    rename_i t ws
    cases rr with
    | cons r0 rr =>
      cases rr with
      | cons r1 rr =>
        cases rr with
        | cons r2 rr =>
          cases rr
          cases r1 with
          | lst hl1 hn1 t1 =>
            cases r2 with
            | dct hl2 hn2 t2 =>
              rename_i v0 a1 vs a2 kvs
              have p1 : P a1 := Classical.byContradiction hn1
              have p2 : P a2 := Classical.byContradiction hn2
              have h1 : H a1 = some (.lst vs) := by
                rcases hl1 with h | ⟨o, h⟩
                · exact h
                · exact absurd h (u a1 p1 _ _)
              exact ⟨t, a1, a2, v0, vs, kvs, rfl, hl, h1, t1.length, p1, hl2, t2.length, p2⟩
theorem wrk_core {x : R.X} {e pe pe' ke : Expr} {tp tp' : TE} {t a1 a2 : Addr} {v0 : V} {vs : List V} {kvs : List (Key × V)} {neg : Bool} {j1 j2 j3 j4 : Nat} {q1 q2 q3 q4 apos cpos pos pos2 s1 s2 ipos rpos : Pos} (gc : GC ft k N tabs W X sc) (hel : ES ft k N tabs sc x e)
    (S : Seal X tabs P Hs i v d σ H env) (ev : (bnd (evE ft x env) fun q => if noMut q.2 = true then ok q.2 else none) = some r) (K : TK X W Hs D r) (pP : PE X pe tp) (pP' : PE X pe' tp')
    (hP : ∀ H', (∀ a xs, SqT X.K H a xs → SqT X.K H' a xs) → ∀ Q, Q (V.ref t) H' → tp σ H' Q) (hP' : ∀ H', (∀ a xs, SqT X.K H a xs → SqT X.K H' a xs) → ∀ Q, Q (V.ref t) H' → tp' σ H' Q)
    (hT : SqT X.K H t [v0, .ref a1, .ref a2]) (h1 : H a1 = some (.lst vs)) (hz : vs.length < sizeLine) (p1 : P a1) (h2 : H a2 = some (.dK kvs)) (hk : kvs.length < sizeLine) (p2 : P a2) (hl : (apos.endLine == cpos.line) = true) (hkey : keyB neg ke = true) :
    SDs X (.Expr (.Call (.Attribute (.Subscript pe (.Constant (.int 1) j1 q1) s1) "append" apos) [.Constant (.int 0) j2 q2] [] cpos) pos ::
      .Assign [.Subscript (.Subscript pe' (.Constant (.int 2) j3 q3) s2) ke ipos] (.Constant (.int 0) j4 q4) pos2 :: [.Return (some e) rpos]) D σ H := by
  obtain ⟨hs, z, tk, pK, hK⟩ := keyB_pe (X := X) hkey
  have n12 : a2 ≠ a1 := fun e => by rw [e, h1] at h2; cases h2
  have g1 : GrM (fun a => a = a1) H (upd H a1 (.lst (vs ++ [.int 0]))) := GrM.put h1 rfl (fun _ z => by cases z) (fun _ z => by cases z) (fun _ _ z => by cases z)
  have h2' : (upd H a1 (.lst (vs ++ [.int 0]))) a2 = some (.dK kvs) := by rw [upd_ne n12]; exact h2
  have g2 : GrM (fun a => a = a2) (upd H a1 (.lst (vs ++ [.int 0]))) (upd (upd H a1 (.lst (vs ++ [.int 0]))) a2 (.dK (putK kvs (.inl z) (.int 0)))) := GrM.put h2' rfl (fun _ z => by cases z) (fun _ z => by cases z) (fun _ _ z => by cases z)
  have g12 := (g1.mono (M' := fun a => a = a1 ∨ a = a2) fun _ h => .inl h).trans (g2.mono fun _ h => .inr h)
  have gs1 : Gr Hs (upd H a1 (.lst (vs ++ [.int 0]))) := S.gr.put_new (S.new _ p1) h1 (fun _ z => by cases z) (fun _ z => by cases z) (fun _ _ z => by cases z)
  have gs2 : Gr Hs (upd (upd H a1 (.lst (vs ++ [.int 0]))) a2 (.dK (putK kvs (.inl z) (.int 0)))) := gs1.put_new (S.new _ p2) h2' (fun _ z => by cases z) (fun _ z => by cases z) (fun _ _ z => by cases z)
  refine wreck_run (by have := hu_of' gc.room; omega) pP pP' pK (fun Q q => hP H (fun _ _ h => h) Q q) (fun Q q => hP' _ (fun a xs h => g1.seqT h) Q q) (fun H' Q q => hK σ H' Q q) hT (g1.seqT hT) h1 hz h2 hk hl hs ?_
  have kp : Keep P P X.K H (upd (upd H a1 (.lst (vs ++ [.int 0]))) a2 (.dK (putK kvs (.inl z) (.int 0)))) := GrM.keeps g12 (fun a h => by
    rcases h with h | h
    · rw [h]; exact p1
    · rw [h]; exact p2) fun a y z => absurd y z
  have ev2 : EV X.K (upd (upd H a1 (.lst (vs ++ [.int 0]))) a2 (.dK (putK kvs (.inl z) (.int 0)))) (fun _ => P) σ env := ⟨S.ev.len, fun j f d' e => let ⟨w, a, r⟩ := S.ev.sh j f d' e; ⟨w, a, r.keep kp⟩, fun j n f d' e => absurd e (S.sh j n f d')⟩
  exact sds_one (tl_ret hel ⟨gc, ev2, ⟨fun _ z => z, fun a h => g12.there a (S.there a h)⟩, S.tb.gr g12⟩ gs2 ev K)
theorem wrkD0 {d : R.D} (h : wrkD false d = true) : ∃ e0 fs es, d = .tuple [e0, .list fs, .dict es] ∧ lenOk fs.length = true ∧ lenOk es.length = true := by
  unfold wrkD at h
  split at h
  · rw [Bool.and_eq_true] at h
    exact ⟨_, _, _, rfl, h.1, h.2⟩
  · rename_i heq; exact absurd heq (by decide)
  · cases h
theorem wrkD1 {d : R.D} (h : wrkD true d = true) : ∃ e0 fs es rest, d = .tuple (.tuple [e0, .list fs, .dict es] :: rest) ∧ lenOk fs.length = true ∧ lenOk es.length = true := by
  unfold wrkD at h
  split at h
  · rename_i heq; exact absurd heq (by decide)
  · rw [Bool.and_eq_true] at h
    exact ⟨_, _, _, _, rfl, h.1, h.2⟩
  · cases h
theorem tl_wrk0 {x : R.X} {y : Str} {e ke : Expr} {neg : Bool} {j1 j2 j3 j4 : Nat} {py py' q1 q2 q3 q4 apos cpos pos pos2 s1 s2 ipos rpos : Pos} (C : ∀ py, PE X (.Name y py) (tVar i)) (gc : GC ft k N tabs W X sc) (hel : ES ft k N tabs sc x e) (hl : (apos.endLine == cpos.line) = true) (hkey : keyB neg ke = true)
    (S : Seal X tabs P Hs i v d σ H env) {kx : R.X} (ev : evTl ft i (.wrk false kx x) env d = some r) (K : TK X W Hs D r) :
    SDs X (.Expr (.Call (.Attribute (.Subscript (.Name y py) (.Constant (.int 1) j1 q1) s1) "append" apos) [.Constant (.int 0) j2 q2] [] cpos) pos ::
      .Assign [.Subscript (.Subscript (.Name y py') (.Constant (.int 2) j3 q3) s2) ke ipos] (.Constant (.int 0) j4 q4) pos2 :: [.Return (some e) rpos]) D σ H := by
  have ev0 : (if wrkD false d = true then bnd (evE ft x env) fun q => if noMut q.2 = true then ok q.2 else none else none) = some r := ev
  split at ev0
  · rename_i hd
    obtain ⟨e0, fs, es, rfl, l1', l2'⟩ := wrkD0 hd
    obtain ⟨t, a1, a2, v0, vs, kvs, rfl, hT, h1, l1, p1, h2, l2, p2⟩ := wrk_parts S.unfz S.rx
    exact wrk_core gc hel S ev0 K (C py) (C py') (fun H' _ Q q => ⟨_, S.hx, q⟩) (fun H' _ Q q => ⟨_, S.hx, q⟩) hT h1 (by rw [l1]; exact lenOk_lt l1') p1 h2 (by rw [l2]; exact lenOk_lt l2') p2 hl hkey
  · cases ev0
theorem tl_wrk1 {x : R.X} {y : Str} {e ke : Expr} {neg : Bool} {j0 j0' j1 j2 j3 j4 : Nat} {py py' q0 q0' q1 q2 q3 q4 apos cpos pos pos2 s0 s0' s1 s2 ipos rpos : Pos} (C : ∀ py, PE X (.Name y py) (tVar i)) (gc : GC ft k N tabs W X sc) (hel : ES ft k N tabs sc x e) (hl : (apos.endLine == cpos.line) = true) (hkey : keyB neg ke = true)
    (S : Seal X tabs P Hs i v d σ H env) {kx : R.X} (ev : evTl ft i (.wrk true kx x) env d = some r) (K : TK X W Hs D r) :
    SDs X (.Expr (.Call (.Attribute (.Subscript (.Subscript (.Name y py) (.Constant (.int 0) j0 q0) s0) (.Constant (.int 1) j1 q1) s1) "append" apos) [.Constant (.int 0) j2 q2] [] cpos) pos ::
      .Assign [.Subscript (.Subscript (.Subscript (.Name y py') (.Constant (.int 0) j0' q0') s0') (.Constant (.int 2) j3 q3) s2) ke ipos] (.Constant (.int 0) j4 q4) pos2 :: [.Return (some e) rpos]) D σ H := by
  have ev0 : (if wrkD true d = true then bnd (evE ft x env) fun q => if noMut q.2 = true then ok q.2 else none else none) = some r := ev
  split at ev0
  · rename_i hd
    obtain ⟨e0, fs, es, rest, rfl, l1', l2'⟩ := wrkD1 hd
    have rx := S.rx
    cases rx with
    | tup hl0 rr =>
      rename_i T ws
      cases rr with
      | cons r0 rr =>
        obtain ⟨t, a1, a2, v0, vs, kvs, rfl, hT, h1, l1, p1, h2, l2, p2⟩ := wrk_parts S.unfz r0
        exact wrk_core gc hel S ev0 K (pe_ix ix_tup (C py) pe_int (fun _ _ => rfl)) (pe_ix ix_tup (C py') pe_int (fun _ _ => rfl)) (fun H' kp Q q => ⟨_, S.hx, T, _, 0, _, rfl, rfl, kp _ _ hl0, atI_nat (j := 0) rfl, q⟩) (fun H' kp Q q => ⟨_, S.hx, T, _, 0, _, rfl, rfl, kp _ _ hl0, atI_nat (j := 0) rfl, q⟩)
          hT h1 (by rw [l1]; exact lenOk_lt l1') p1 h2 (by rw [l2]; exact lenOk_lt l2') p2 hl hkey
  · cases ev0
/-- x.append(c), x a list -/
def cstB : Expr → Bool
  | .Constant (.int _) _ _ => true
  | .Constant (.str _) _ _ => true
  | _ => false
theorem cstB_pe {ce : Expr} (h : cstB ce = true) : starNo ce = true ∧ ∃ cv tk, PE X ce tk ∧ ∀ σ H' Q, Q cv H' → tk σ H' Q := by
  unfold cstB at h
  split at h
  · exact ⟨rfl, _, _, pe_int, fun σ H' Q q => q⟩
  · exact ⟨rfl, _, _, pe_str, fun σ H' Q q => q⟩
  · cases h
theorem tl_wap {x : R.X} {y : Str} {e ce : Expr} {py apos cpos pos rpos : Pos} (C : ∀ py, PE X (.Name y py) (tVar i)) (gc : GC ft k N tabs W X sc) (hel : ES ft k N tabs sc x e) (hl : (apos.endLine == cpos.line) = true) (hc : cstB ce = true)
    (S : Seal X tabs P Hs i v d σ H env) (ev : evTl ft i (.wap x) env d = some r) (K : TK X W Hs D r) :
    SDs X (.Expr (.Call (.Attribute (.Name y py) "append" apos) [ce] [] cpos) pos :: [.Return (some e) rpos]) D σ H := by
  obtain ⟨hs, cv, tk, pC, hC⟩ := cstB_pe (X := X) hc
  have ev0 : (if wapD d = true then bnd (evE ft x env) fun q => if noMut q.2 = true then ok q.2 else none else none) = some r := ev
  split at ev0
  · rename_i hd
    cases d with
    | list ds =>
      have hd' : lenOk ds.length = true := hd
      have r0 := S.rx
      cases r0 with
      | lst hl1 hn1 t1 =>
        rename_i a vs
        have p1 : P a := Classical.byContradiction hn1
        have h1 : H a = some (.lst vs) := by
          rcases hl1 with h | ⟨o, h⟩
          · exact h
          · exact absurd h (S.unfz a p1 _ _)
        have g1 : GrM (fun b => b = a) H (upd H a (.lst (vs ++ [cv]))) := GrM.put h1 rfl (fun _ z => by cases z) (fun _ z => by cases z) (fun _ _ z => by cases z)
        have gs1 : Gr Hs (upd H a (.lst (vs ++ [cv]))) := S.gr.put_new (S.new _ p1) h1 (fun _ z => by cases z) (fun _ z => by cases z) (fun _ _ z => by cases z)
        refine SDs.of (pss_cons (ps_expr (pe_bm PySem.F.plainAttrs_list PySem.F.slot_list_append PySem.F.type_list_append mt_append (C py) (pa_cons pC pa_nil (star_eq hs)) rfl (meth_few hs) hl (star_eq hs) rfl) rfl) pss_S) ?_
        refine ⟨_, S.hx, .inl ⟨rfl, _, SqL.of h1⟩, ?_⟩
        refine hC _ _ _ ⟨a, vs, cv, rfl, rfl, h1, by rw [t1.length]; exact lenOk_lt hd', ?_⟩
        have kp : Keep P P X.K H (upd H a (.lst (vs ++ [cv]))) := GrM.keeps g1 (fun b h => by rw [h]; exact p1) fun b y z => absurd y z
        have ev2 : EV X.K (upd H a (.lst (vs ++ [cv]))) (fun _ => P) σ env := ⟨S.ev.len, fun j f d' e => let ⟨w, a, r⟩ := S.ev.sh j f d' e; ⟨w, a, r.keep kp⟩, fun j n f d' e => absurd e (S.sh j n f d')⟩
        exact sds_one (tl_ret hel ⟨gc, ev2, ⟨fun _ z => z, fun b h => g1.there b (S.there b h)⟩, S.tb.gr g1⟩ gs1 ev0 K)
    | _ => cases hd
  · cases ev0
/-! ### matching the end -/
def wapO (N : List Str) (sc : Scope) (i : Nat) : List Stmt → Option Expr
  | [.Expr (.Call (.Attribute (.Name y _) m apos) [ce] [] cpos) _, .Return (some er) _] =>
    if (decide (m = "append") && (apos.endLine == cpos.line) && slotB' N sc i y && cstB ce) = true then some er else none
  | _ => none
def wrkO0 (N : List Str) (sc : Scope) (i : Nat) : List Stmt → Option Expr
  | [.Expr (.Call (.Attribute (.Subscript (.Name y _) (.Constant (.int 1) _ _) _) m apos) [.Constant (.int 0) _ _] [] cpos) _, .Assign [.Subscript (.Subscript (.Name y' _) (.Constant (.int 2) _ _) _) ke _] (.Constant (.int 0) _ _) _, .Return (some er) _] =>
    if (decide (m = "append") && (apos.endLine == cpos.line) && slotB' N sc i y && decide (y' = y) && (keyB false ke || keyB true ke)) = true then some er else none
  | _ => none
def wrkO1 (N : List Str) (sc : Scope) (i : Nat) : List Stmt → Option Expr
  | [.Expr (.Call (.Attribute (.Subscript (.Subscript (.Name y _) (.Constant (.int 0) _ _) _) (.Constant (.int 1) _ _) _) m apos) [.Constant (.int 0) _ _] [] cpos) _, .Assign [.Subscript (.Subscript (.Subscript (.Name y' _) (.Constant (.int 0) _ _) _) (.Constant (.int 2) _ _) _) ke _] (.Constant (.int 0) _ _) _, .Return (some er) _] =>
    if (decide (m = "append") && (apos.endLine == cpos.line) && slotB' N sc i y && decide (y' = y) && (keyB false ke || keyB true ke)) = true then some er else none
  | _ => none
def setO (N : List Str) (sc : Scope) (j : Nat) : List Stmt → Option (Expr × List Stmt)
  | .Assign [.Name y _] ex _ :: sts => if (nameB N sc j y && noComp ex) = true then some (ex, sts) else none
  | _ => none
def tstO : List Stmt → Option (Expr × Expr × List Stmt)
  | .If ec [.Return (some er) _] [] _ :: sts => some (ec, er, sts)
  | _ => none
def mtT (N : List Str) (sc : Scope) (i : Nat) : T → List Stmt → Bool
  | .set j e t, sts => (setO N sc j sts).any fun q => mtE N sc e q.1 && mtT N sc i t q.2
  | .tst c r t, sts => (tstO sts).any fun q => mtE N sc c q.1 && mtE N sc r q.2.1 && mtT N sc i t q.2.2
  | .wap e, sts => (wapO N sc i sts).any fun er => mtE N sc e er
  | .wrk false _ e, sts => (wrkO0 N sc i sts).any fun er => mtE N sc e er
  | .wrk true _ e, sts => (wrkO1 N sc i sts).any fun er => mtE N sc e er
theorem any_some {α : Type} {o : Option α} {f : α → Bool} (h : o.any f = true) : ∃ a, o = some a ∧ f a = true := by
  cases o with
  | none => cases h
  | some a => exact ⟨a, rfl, h⟩
theorem slot_pe {i : Nat} {y : Str} (gc : GC ft k N tabs W X sc) (hn : slotB' N sc i y = true) : ∀ py, PE X (.Name y py) (tVar i) := by
  intro py
  simp only [slotB', Bool.and_eq_true, decide_eq_true_eq, okName, Bool.not_eq_true'] at hn
  obtain ⟨⟨hN, hv⟩, ⟨h1, h2⟩, _⟩ := hn
  exact pe_var (i := i) (by rw [gc.hN]; exact hN) (gc.vis y hv) h1 h2
theorem tl_run (ndN : X.N.Nodup) (gc : GC ft k N tabs W X sc) (sce : X.env.scope = sc) (fn : ∀ x, X.fn x = true) (K : TK X W Hs D r) : ∀ (t : T) (sts : List Stmt), mtT N sc i t sts = true → ∀ {σ : L2.St} {H : Hp} {env : Env1}, Seal X tabs P Hs i v d σ H env → evTl ft i t env d = some r → SDs X sts D σ H
  | .set j e t, sts, hm, σ, H, env, S, ev => by
    obtain ⟨⟨ex, rest⟩, h1, h2⟩ := any_some (show ((setO N sc j sts).any fun q => mtE N sc e q.1 && mtT N sc i t q.2) = true from hm)
    rw [Bool.and_eq_true] at h2
    unfold setO at h1
    split at h1
    · split at h1
      · rename_i c
        rw [Bool.and_eq_true] at c
        cases h1
        exact tl_set c.1 c.2 (etE ft e ex h2.1).1 ndN gc sce fn S ev K fun S' ev' => tl_run ndN gc sce fn K t rest h2.2 S' ev'
      · cases h1
    · cases h1
  | .tst c r0 t, sts, hm, σ, H, env, S, ev => by
    obtain ⟨⟨ec, er, rest⟩, h1, h2⟩ := any_some (show ((tstO sts).any fun q => mtE N sc c q.1 && mtE N sc r0 q.2.1 && mtT N sc i t q.2.2) = true from hm)
    simp only [Bool.and_eq_true] at h2
    unfold tstO at h1
    split at h1
    · cases h1
      exact tl_tst (etE ft c ec h2.1.1).2 (etE ft r0 er h2.1.2).1 gc S ev K fun S' ev' => tl_run ndN gc sce fn K t rest h2.2 S' ev'
    · cases h1
  | .wap e, sts, hm, σ, H, env, S, ev => by
    obtain ⟨er, h1, h2⟩ := any_some (show ((wapO N sc i sts).any fun er => mtE N sc e er) = true from hm)
    unfold wapO at h1
    split at h1
    · split at h1
      · rename_i c
        simp only [Bool.and_eq_true, decide_eq_true_eq] at c
        obtain ⟨⟨⟨rfl, c2⟩, c3⟩, c4⟩ := c
        cases h1
        exact tl_wap (slot_pe gc c3) gc (etE ft e _ h2).1 c2 c4 S ev K
      · cases h1
    · cases h1
  | .wrk false kx e, sts, hm, σ, H, env, S, ev => by
    obtain ⟨er, h1, h2⟩ := any_some (show ((wrkO0 N sc i sts).any fun er => mtE N sc e er) = true from hm)
    unfold wrkO0 at h1
    split at h1
    · split at h1
      · rename_i c
        simp only [Bool.and_eq_true, decide_eq_true_eq, Bool.or_eq_true] at c
        obtain ⟨⟨⟨⟨rfl, c2⟩, c3⟩, rfl⟩, c5⟩ := c
        cases h1
        rcases c5 with c5 | c5
        · exact tl_wrk0 (slot_pe gc c3) gc (etE ft e _ h2).1 c2 c5 S ev K
        · exact tl_wrk0 (slot_pe gc c3) gc (etE ft e _ h2).1 c2 c5 S ev K
      · cases h1
    · cases h1
  | .wrk true kx e, sts, hm, σ, H, env, S, ev => by
    obtain ⟨er, h1, h2⟩ := any_some (show ((wrkO1 N sc i sts).any fun er => mtE N sc e er) = true from hm)
    unfold wrkO1 at h1
    split at h1
    · split at h1
      · rename_i c
        simp only [Bool.and_eq_true, decide_eq_true_eq, Bool.or_eq_true] at c
        obtain ⟨⟨⟨⟨rfl, c2⟩, c3⟩, rfl⟩, c5⟩ := c
        cases h1
        rcases c5 with c5 | c5
        · exact tl_wrk1 (slot_pe gc c3) gc (etE ft e _ h2).1 c2 c5 S ev K
        · exact tl_wrk1 (slot_pe gc c3) gc (etE ft e _ h2).1 c2 c5 S ev K
      · cases h1
    · cases h1
end
/-! ### the sealing -/
theorem loE_get {env : Env1} {j : Nat} : (loE env)[j]? = (env[j]?).map loS := by unfold loE; rw [List.getElem?_map]
theorem noE_get {env : Env1} {j : Nat} {s : Slot} (h : (noE env)[j]? = some s) : s = .no := by
  unfold noE at h
  rw [List.getElem?_map] at h
  cases e : env[j]? with
  | none => rw [e] at h; cases h
  | some s0 => rw [e] at h; cases h; rfl
theorem EV.low {K : PySem.W.Frag} {H : Hp} {Fb Fb' : Bool → Addr → Prop} {σ : L2.St} {env : Env1} (h : EV K H Fb σ env) (f0 : ∀ a, ¬ Fb' false a) : EV K H Fb' σ (loE env) := by
  refine ⟨by unfold loE; rw [List.length_map]; exact h.len, fun j f d e => ?_, fun j n f d e => ?_⟩
  · rw [loE_get] at e
    cases sl : env[j]? with
    | none => rw [sl] at e; cases e
    | some s =>
      rw [sl] at e
      cases s with
      | no => cases e
      | sh f1 d1 =>
        cases e
        obtain ⟨v, a, r⟩ := h.sh j f1 d sl
        exact ⟨v, a, r.less fun b z => absurd z (f0 b)⟩
      | ow n1 f1 d1 =>
        cases e
        obtain ⟨a, b, o⟩ := h.ow j n1 f1 d sl
        exact ⟨_, b, o.rp (Keep.weak fun b z => absurd z (f0 b)) (f0 a)⟩
  · rw [loE_get] at e
    cases sl : env[j]? with
    | none => rw [sl] at e; cases e
    | some s => rw [sl] at e; cases s <;> cases e
theorem ss_tl {i : Nat} {x : R.X} {t : T} {y : Str} {py pos : Pos} {e : Expr} {rest : List Stmt} (hn : nameB N sc i y = true) (hc : noComp e = true) (he : ES ft k N tabs sc x e) (hm : mtT N sc i t rest = true) : SSl ft k N tabs sc (.cons (.tl i x t) .nil) (.Assign [.Name y py] e pos :: rest) := by
  intro X W H₀ O₀ M mu0 σ H env oc Dn C S ev0 p
  have ev : (exO (evE ft x (loE env)) fun q => if q.1.fr = true ∧ oldFree env = true ∧ i < env.length then exO (evTl ft i t ((loE env).set i .no) q.2) fun d => some (.rt (noE env) ⟨false, true⟩ d) else none) = some oc := by
    rcases seqO_inv (show seqO (evSt ft (.tl i x t) env) (fun e => evSl ft .nil e) = some oc from ev0) with ⟨e1, h1, h2⟩ | ⟨h1, _⟩
    · cases h2; exact h1
    · exact h1
  obtain ⟨n1, n2⟩ := name_at C hn
  refine SDs.of (pss_cons (ps_set (i := i) C.ndN n1 n2 pe_S (sw_false hc) (.inl (C.fn y))) pss_S) ?_
  let Fb' : Bool → Addr → Prop := fun f a => f = true ∧ H a ≠ none
  have A0 : At ft k N tabs X W sc Fb' σ H (loE env) := ⟨C.gc, S.ev.low (fun a z => (by cases z.1)), ⟨fun a z => (by cases z.1), fun a z => z.2⟩, S.tb⟩
  rcases exO_inv ev with ⟨c, e1, rfl⟩ | ⟨⟨kd, d⟩, e1, e2⟩
  · exact he X W Fb' σ H _ _ _ A0 e1 (fun _ z => by cases z) (fun c' z => by cases z; exact p.err S)
  · simp only at e2
    split at e2
    · rename_i cnd
      obtain ⟨c1, c2, c3⟩ := cnd
      refine he X W Fb' σ H _ _ _ A0 e1 (fun q z v H1 g vr => ?_) (fun _ z => by cases z)
      cases z
      have hiσ : i < σ.length := by rw [← S.ev.len]; exact c3
      have rx0 : Rp X.K H1 (fun a => H a ≠ none) v d := vr.1.less fun a z => ⟨c1, z⟩
      have sl : Seal X tabs (fun a => H a = none ∧ H1 a ≠ none) H i v d (σ.set i (some v)) H1 ((loE env).set i .no) := by
        have evl : EV X.K H (fun _ _ => False) σ (loE env) := S.ev.low (fun _ z => z)
        refine ⟨⟨by rw [List.length_set, List.length_set]; exact evl.len, fun j f d' e => ?_, fun j n f d' e => ?_⟩, List.getElem?_set_self hiσ, rx0.keep (GrM.keeps (M := fun _ => False) GrM.refl (fun _ z => z.elim) fun a z y => ?_), fun a z => z.2, fun a z o u e => ?_, g, S.tb.gr g, fun j n f d' e => ?_, fun a z => z.1⟩
        · have hj : j ≠ i := fun z => by
            rw [z, List.getElem?_set_self (by rw [evl.len]; exact hiσ)] at e; cases e
          rw [List.getElem?_set_ne (Ne.symm hj)] at e
          obtain ⟨w, a, r⟩ := evl.sh j f d' e
          exact ⟨w, by rw [List.getElem?_set_ne (Ne.symm hj)]; exact a, r.keep (GrM.keeps g (fun _ z => z.elim) fun a z _ => z.1)⟩
        · have hj : j ≠ i := fun z => by
            rw [z, List.getElem?_set_self (by rw [evl.len]; exact hiσ)] at e; cases e
          rw [List.getElem?_set_ne (Ne.symm hj), loE_get] at e
          cases sl : env[j]? with
          | none => rw [sl] at e; cases e
          | some s => rw [sl] at e; cases s <;> cases e
        · exact Classical.byContradiction fun h1 => z ⟨Classical.byContradiction fun h => y h, h1⟩
        · have := g.unfz a o u e
          rw [z.1] at this; cases this
        · have hj : j ≠ i := fun z => by
            rw [z, List.getElem?_set_self (by rw [evl.len]; exact hiσ)] at e; cases e
          rw [List.getElem?_set_ne (Ne.symm hj), loE_get] at e
          cases sl : env[j]? with
          | none => rw [sl] at e; cases e
          | some s => rw [sl] at e; cases s <;> cases e
      have fin : ∀ (r : Except Str R.D), evTl ft i t ((loE env).set i .no) d = some r → TK X W H Dn r → SDs X rest Dn (σ.set i (some v)) H1 := fun r er K => tl_run (P := fun a => H a = none ∧ H1 a ≠ none) C.ndN C.gc C.sce C.fn K t rest hm sl er
      rcases exO_inv e2 with ⟨c, e3, rfl⟩ | ⟨d', e3, e4⟩
      · exact fin _ e3 ⟨fun _ z => (by cases z), fun c' z C' hC σ' H' g' => by cases z; exact p C' hC σ' H' (S.gr.trans g'.any)⟩
      · cases e4
        refine fin _ e3 ⟨fun d1 z v' H' g' hn rv => ?_, fun _ z => by cases z⟩
        cases z
        refine p v' σ H' ⟨⟨by unfold noE; rw [List.length_map]; exact S.ev.len, fun j f d2 e => (by have := noE_get e; cases this), fun j n f d2 e => (by have := noE_get e; cases this)⟩, fun j1 j2 a h => ?_, fun j f d2 a e => (by have := noE_get e; cases this), fun j f d2 a e => (by have := noE_get e; cases this), fun j a h => ?_, S.gr.trans g'.any, S.tb.gr g'⟩
          ⟨g'.any, fun a h => ?_⟩ (VR.sc (f := true) (rv.free hn) hn)
        · obtain ⟨n, f, d2, e, _⟩ := h
          have := noE_get e; cases this
        · obtain ⟨f, d2, e, _⟩ := S.mu j a h
          exfalso
          have := List.all_eq_true.mp c2 _ (List.mem_of_getElem? e)
          cases this
        · obtain ⟨j, n, f, d2, e, _⟩ := h
          have := noE_get e; cases this
    · cases e2
end R
namespace R
open PySem PySem.Spec PyProof.Rows L2
variable {ft : FT} {k : Nat} {N : List Str} {tabs : List Addr}
def mtSv (N : List Str) (sc : Scope) : XS → Expr → Bool
  | .r a, .Call (.Name x _) [e] [] _ => gnB sc "range" x && mtE N sc a e && starNo e
  | .l e, x => mtE N sc e x
  | _, _ => false
def mtCallB (N : List Str) (sc : Scope) (f : Str) (es : XL) : Expr → Bool
  | .Call (.Name x _) (e :: l) [] _ => gnB sc f x && mtL N sc es (e :: l)
  | _ => false
def fnB (sc : Scope) : Bool := match sc.kind with
  | .function => true
  | _ => false
def lcSetB (N : List Str) (sc : Scope) (y : Str) (py : Pos) : X → Expr → Bool
  | .lc i0 src c x, .ListComp elt [⟨.Name z _, iter, ifs, 0⟩] scope pc =>
      locB sc y && fnB sc && (py.line == pc.line) && !(scope.names.any fun (n, k) => n == y && (k == .local || k == .cell)) && mtS N sc src iter && noSet iter && blkC N sc scope [(z, i0)] && locB scope z && mtC N scope c ifs && mtE N scope x elt
  | _, _ => false
def setB (N : List Str) (sc : Scope) (y : Str) (py : Pos) (x : X) (e : Expr) : Bool := if noComp e = true then mtE N sc x e else lcSetB N sc y py x e
def mtG (N : List Str) (sc : Scope) : XO → Option Expr → Bool
  | .no, none => true
  | .so x, some e => mtE N sc x e
  | _, _ => false
mutual
def mtSt (N : List Str) (sc : Scope) : S → Stmt → Bool
  | .pass, .Pass _ => true
  | .brk, .Break _ => true
  | .cont, .Continue _ => true
  | .set i x, .Assign [.Name y py] e _ => nameB N sc i y && setB N sc y py x e
  | .unp is x, .Assign [.Tuple ts _ _] e _ => tgsB N sc is ts && noTup e && mtE N sc x e
  | .sti i ix x, .Assign [.Subscript (.Name y _) ie _] e _ => slotB' N sc i y && noSl ie && mtE N sc ix ie && mtE N sc x e
  | .app i x, .Expr (.Call (.Attribute (.Name y _) m apos) [e] [] cpos) _ => decide (m = "append") && slotB' N sc i y && starNo e && (apos.endLine == cpos.line) && mtE N sc x e
  | .xt i x, .Expr (.Call (.Attribute (.Name y _) m apos) [e] [] cpos) _ => decide (m = "extend") && slotB' N sc i y && starNo e && (apos.endLine == cpos.line) && mtE N sc x e
  | .aug i c, .AugAssign (.Name y _) .Add (.Constant (.int z) _ _) _ => decide (z = c) && nameB N sc i y
  | .wh c b, .While ec sb [] _ => mtE N sc c ec && mtSl N sc b sb
  | .rev i, .Expr (.Call (.Attribute (.Name y _) m apos) [] [] cpos) _ => decide (m = "reverse") && slotB' N sc i y && (apos.endLine == cpos.line)
  | .pop i, .Expr (.Call (.Attribute (.Name y _) m apos) [] [] cpos) _ => decide (m = "pop") && slotB' N sc i y && (apos.endLine == cpos.line)
  | .ife c a b, .If ec sa sb _ => mtE N sc c ec && mtSl N sc a sa && mtSl N sc b sb
  | .for1 i src b, .For (.Name y _) iter body [] _ => nameB N sc i y && noSet iter && mtSv N sc src iter && mtSl N sc b body
  | .forT is src b, .For (.Tuple ts _ _) iter body [] _ => tgsB N sc is ts && noSet iter && mtSv N sc src iter && mtSl N sc b body
  | .ret x, .Return (some e) _ => mtE N sc x e
  | .retn, .Return none _ => true
  | .mc .drop f es, .Expr e _ => mtCallB N sc f es e
  | .mc (.set i) f es, .Assign [.Name y _] e _ => nameB N sc i y && mtCallB N sc f es e
  | .mc (.unp is) f es, .Assign [.Tuple ts _ _] e _ => tgsB N sc is ts && mtCallB N sc f es e
  | .mc .ret f es, .Return (some e) _ => mtCallB N sc f es e
  | .ex x, .Expr e _ => noComp e && mtE N sc x e
  | .mat i cs, .Match (.Name y _) cases _ => slotB' N sc i y && mtCs N sc cs cases
  | .unk, _ => true
  | _, _ => false
  termination_by structural x => x
def mtSl (N : List Str) (sc : Scope) : SL → List Stmt → Bool
  | .nil, [] => true
  | .cons (.frz i) l, sts => mtSl N sc l sts
  | .cons (.tl i x t) .nil, sts => (setO N sc i sts).any fun q => mtE N sc x q.1 && mtT N sc i t q.2
  | .cons s l, st :: sts => mtSt N sc s st && mtSl N sc l sts
  | _, _ => false
  termination_by structural x => x
def mtCs (N : List Str) (sc : Scope) : CL → List MatchCase → Bool
  | .nil, [] => true
  | .cons p g b cs, c :: rest => mtPt N sc p c.pattern && mtG N sc g c.guard && mtSl N sc b c.body && mtCs N sc cs rest
  | _, _ => false
  termination_by structural x => x
end
theorem ssvE {sc : Scope} : ∀ (x : XS) (e : Expr), mtSv N sc x e = true → SSv ft k N tabs sc x e
  | .r a, e, h => by
    cases e with
    | Call fn l kw p =>
      rcases l with _ | ⟨e1, _ | ⟨_, _⟩⟩ <;> cases fn <;> cases kw <;> first | (simp [mtSv] at h; done) | skip
      simp only [mtSv, Bool.and_eq_true] at h
      exact ssv_r h.1.1 h.2 (etE ft a e1 h.1.2).1
    | _ => simp [mtSv] at h
  | .l a, e, h => ssv_l (etE ft a e (by simpa only [mtSv] using h)).1
theorem mtCall_inv {sc : Scope} {f : Str} {es : XL} {e : Expr} (h : mtCallB N sc f es e = true) : ∃ x p e1 l pos, e = .Call (.Name x p) (e1 :: l) [] pos ∧ gnB sc f x = true ∧ mtL N sc es (e1 :: l) = true := by
  cases e with
  | Call fn l kw p =>
    rcases l with _ | ⟨e1, l⟩ <;> cases fn <;> cases kw <;> first | (simp [mtCallB] at h; done) | skip
    simp only [mtCallB, Bool.and_eq_true] at h
    exact ⟨_, _, _, _, _, rfl, h.1, h.2⟩
  | _ => simp [mtCallB] at h
theorem fnB_inv {sc : Scope} (h : fnB sc = true) : sc.kind = .function := by
  unfold fnB at h
  split at h
  · assumption
  · cases h
theorem ff {p : Prop} (h : false = true) : p := by cases h
theorem st_set {sc : Scope} {i : Nat} {x : R.X} {y : Str} {py pos : Pos} {e : Expr} (hn : nameB N sc i y = true) (h : setB N sc y py x e = true) : SSt ft k N tabs sc (.set i x) (.Assign [.Name y py] e pos) := by
  unfold setB at h
  split at h
  · rename_i hc
    exact ss_set hn hc (etE ft x e h).1
  · cases e with
    | ListComp elt gs scope pc =>
      rcases gs with _ | ⟨⟨tg, iter, ifs, asy⟩, _ | ⟨_, _⟩⟩
      · cases x <;> simp [lcSetB] at h
      · cases tg with
        | Name z pz =>
          cases x with
          | lc i0 src c x =>
            by_cases za : asy = 0
            · subst za
              simp only [lcSetB, Bool.and_eq_true, Bool.not_eq_true'] at h
              obtain ⟨⟨⟨⟨⟨⟨⟨⟨⟨h2, h3⟩, h4⟩, h5⟩, h6⟩, h7⟩, h8⟩, h9⟩, h10⟩, h11⟩ := h
              exact ss_setLc hn h2 (fnB_inv h3) h4 h5 (ssE ft src iter h6) h7 h8 h9 (csE ft c ifs h10) (etE ft x elt h11).1
            · simp [lcSetB, za] at h
          | _ => simp [lcSetB] at h
        | _ => cases x <;> simp [lcSetB] at h
      · cases x <;> simp [lcSetB] at h
    | _ => cases x <;> simp [lcSetB] at h
theorem st1_pass {sc : Scope}  {st : Stmt} (h : mtSt N sc (.pass) st = true) : SSt ft k N tabs sc (.pass) st := by cases st <;> first | exact ss_pass | exact ff h
theorem st1_brk {sc : Scope}  {st : Stmt} (h : mtSt N sc (.brk) st = true) : SSt ft k N tabs sc (.brk) st := by cases st <;> first | exact ss_brk | exact ff h
theorem st1_cont {sc : Scope}  {st : Stmt} (h : mtSt N sc (.cont) st = true) : SSt ft k N tabs sc (.cont) st := by cases st <;> first | exact ss_cont | exact ff h
theorem st1_set {sc : Scope} {i : Nat} {x : R.X} {st : Stmt} (h : mtSt N sc (.set i x) st = true) : SSt ft k N tabs sc (.set i x) st := by
  cases st with
  | Assign ts e p =>
    rcases ts with _ | ⟨t, ts⟩
    · exact ff h
    cases t <;> cases ts <;> first | exact ff h | skip
    simp only [mtSt, Bool.and_eq_true] at h
    exact st_set h.1 h.2
  | _ => exact ff h
theorem st1_unp {sc : Scope} {is : List Nat} {x : R.X} {st : Stmt} (h : mtSt N sc (.unp is x) st = true) : SSt ft k N tabs sc (.unp is x) st := by
  cases st with
  | Assign ts e p =>
    rcases ts with _ | ⟨t, ts⟩
    · exact ff h
    cases t <;> cases ts <;> first | exact ff h | skip
    simp only [mtSt, Bool.and_eq_true] at h
    exact ss_unp h.1.1 h.1.2 (.of (etE ft x e h.2).1 h.2)
  | _ => exact ff h
theorem st1_sti {sc : Scope} {i : Nat} {ix x : R.X} {st : Stmt} (h : mtSt N sc (.sti i ix x) st = true) : SSt ft k N tabs sc (.sti i ix x) st := by
  cases st with
  | Assign ts e p =>
    rcases ts with _ | ⟨t, ts⟩
    · exact ff h
    cases t with
    | Subscript a ie p2 =>
      cases a <;> cases ts <;> first | exact ff h | skip
      simp only [mtSt, Bool.and_eq_true] at h
      exact ss_sti h.1.1.1 h.1.1.2 (.of (etE ft ix ie h.1.2).1 h.1.2) (etE ft x e h.2).1
    | _ => cases ts <;> exact ff h
  | _ => exact ff h
theorem st1_app {sc : Scope} {i : Nat} {x : R.X} {st : Stmt} (h : mtSt N sc (.app i x) st = true) : SSt ft k N tabs sc (.app i x) st := by
  cases st with
  | Expr e p =>
    cases e with
    | Call fn l kw p2 =>
      cases fn with
      | Attribute a m apos =>
        rcases l with _ | ⟨e1, l⟩ <;> cases a <;> first | exact ff h | skip
        cases l <;> first | exact ff h | skip
        cases kw <;> first | exact ff h | skip
        simp only [mtSt, Bool.and_eq_true, decide_eq_true_eq] at h
        obtain ⟨⟨⟨⟨rfl, h2⟩, h3⟩, h4⟩, h5⟩ := h
        exact ss_app h2 h3 h4 (etE ft x e1 h5).1
      | _ => exact ff h
    | _ => exact ff h
  | _ => exact ff h
theorem st1_xt {sc : Scope} {i : Nat} {x : R.X} {st : Stmt} (h : mtSt N sc (.xt i x) st = true) : SSt ft k N tabs sc (.xt i x) st := by
  cases st with
  | Expr e p =>
    cases e with
    | Call fn l kw p2 =>
      cases fn with
      | Attribute a m apos =>
        rcases l with _ | ⟨e1, l⟩ <;> cases a <;> first | exact ff h | skip
        cases l <;> first | exact ff h | skip
        cases kw <;> first | exact ff h | skip
        simp only [mtSt, Bool.and_eq_true, decide_eq_true_eq] at h
        obtain ⟨⟨⟨⟨rfl, h2⟩, h3⟩, h4⟩, h5⟩ := h
        exact ss_ext h2 h3 h4 (etE ft x e1 h5).1
      | _ => exact ff h
    | _ => exact ff h
  | _ => exact ff h
theorem st1_rev {sc : Scope} {i : Nat} {st : Stmt} (h : mtSt N sc (.rev i) st = true) : SSt ft k N tabs sc (.rev i) st := by
  cases st with
  | Expr e p =>
    cases e with
    | Call fn l kw p2 =>
      cases fn with
      | Attribute a m apos =>
        rcases l with _ | ⟨e1, l⟩ <;> cases a <;> first | exact ff h | skip
        cases kw <;> first | exact ff h | skip
        simp only [mtSt, Bool.and_eq_true, decide_eq_true_eq] at h
        obtain ⟨⟨rfl, h2⟩, h4⟩ := h
        exact ss_rev h2 h4
      | _ => exact ff h
    | _ => exact ff h
  | _ => exact ff h
theorem st1_pop {sc : Scope} {i : Nat} {st : Stmt} (h : mtSt N sc (.pop i) st = true) : SSt ft k N tabs sc (.pop i) st := by
  cases st with
  | Expr e p =>
    cases e with
    | Call fn l kw p2 =>
      cases fn with
      | Attribute a m apos =>
        rcases l with _ | ⟨e1, l⟩ <;> cases a <;> first | exact ff h | skip
        cases kw <;> first | exact ff h | skip
        simp only [mtSt, Bool.and_eq_true, decide_eq_true_eq] at h
        obtain ⟨⟨rfl, h2⟩, h4⟩ := h
        exact ss_pop h2 h4
      | _ => exact ff h
    | _ => exact ff h
  | _ => exact ff h
theorem st1_ret {sc : Scope} {x : R.X} {st : Stmt} (h : mtSt N sc (.ret x) st = true) : SSt ft k N tabs sc (.ret x) st := by
  cases st with
  | Return e p =>
    cases e with
    | none => exact ff h
    | some e =>
      have h' : mtE N sc x e = true := by simpa only [mtSt] using h
      exact ss_ret h' (etE ft x e h').1
  | _ => exact ff h
theorem st1_retn {sc : Scope}  {st : Stmt} (h : mtSt N sc (.retn) st = true) : SSt ft k N tabs sc (.retn) st := by
  cases st with
  | Return e p =>
    cases e with
    | none => exact ss_retn
    | some e => exact ff h
  | _ => exact ff h
theorem st1_mc {sc : Scope} {dd : Ds} {f : Str} {es : XL} {st : Stmt} (h : mtSt N sc (.mc dd f es) st = true) : SSt ft k N tabs sc (.mc dd f es) st := by
  cases dd with
  | drop =>
    cases st with
    | Expr e p =>
      obtain ⟨_, _, _, _, _, rfl, h1, h2⟩ := mtCall_inv (N := N) (sc := sc) (f := f) (es := es) (e := e) (by simpa only [mtSt] using h)
      exact ss_mcDrop h1 h2
    | _ => exact ff h
  | set i =>
    cases st with
    | Assign ts e p =>
      rcases ts with _ | ⟨t, ts⟩
      · exact ff h
      cases t <;> cases ts <;> first | exact ff h | skip
      simp only [mtSt, Bool.and_eq_true] at h
      obtain ⟨_, _, _, _, _, rfl, h1, h2⟩ := mtCall_inv h.2
      exact ss_mcSet h.1 h1 h2
    | _ => exact ff h
  | unp is =>
    cases st with
    | Assign ts e p =>
      rcases ts with _ | ⟨t, ts⟩
      · exact ff h
      cases t <;> cases ts <;> first | exact ff h | skip
      simp only [mtSt, Bool.and_eq_true] at h
      obtain ⟨_, _, _, _, _, rfl, h1, h2⟩ := mtCall_inv h.2
      exact ss_mcUnp h.1 h1 h2
    | _ => exact ff h
  | ret =>
    cases st with
    | Return e p =>
      cases e with
      | none => exact ff h
      | some e =>
        obtain ⟨_, _, _, _, _, rfl, h1, h2⟩ := mtCall_inv (N := N) (sc := sc) (f := f) (es := es) (e := e) (by simpa only [mtSt] using h)
        exact ss_mcRet h1 h2
    | _ => exact ff h
theorem st1_ex {sc : Scope} {x : R.X} {st : Stmt} (h : mtSt N sc (.ex x) st = true) : SSt ft k N tabs sc (.ex x) st := by
  cases st with
  | Expr e p =>
    simp only [mtSt, Bool.and_eq_true] at h
    exact ss_ex h.1 (etE ft x e h.2).1
  | _ => exact ff h
theorem st1_frz {sc : Scope} {i : Nat} {st : Stmt} (h : mtSt N sc (.frz i) st = true) : SSt ft k N tabs sc (.frz i) st := by cases st <;> exact ff h
theorem inv_ife {sc : Scope} {c : R.X} {a b : SL} {st : Stmt} (h : mtSt N sc (.ife c a b) st = true) : ∃ ec sa sb p, st = .If ec sa sb p ∧ mtE N sc c ec = true ∧ mtSl N sc a sa = true ∧ mtSl N sc b sb = true := by
  cases st with
  | If ec sa sb p =>
    simp only [mtSt, Bool.and_eq_true] at h
    exact ⟨_, _, _, _, rfl, h.1.1, h.1.2, h.2⟩
  | _ => exact ff h
theorem st1_aug {sc : Scope} {i : Nat} {c : Int} {st : Stmt} (h : mtSt N sc (.aug i c) st = true) : SSt ft k N tabs sc (.aug i c) st := by
  cases st with
  | AugAssign tg op e p =>
    cases tg with
    | Name y py =>
      cases op with
      | Add =>
        cases e with
        | Constant z j pc =>
          cases z with
          | int z =>
            simp only [mtSt, Bool.and_eq_true, decide_eq_true_eq] at h
            obtain ⟨rfl, h2⟩ := h
            exact ss_aug h2
          | _ => exact ff h
        | _ => exact ff h
      | _ => exact ff h
    | _ => exact ff h
  | _ => exact ff h
theorem grd_ok {sc : Scope} {g : XO} {e : Option Expr} (h : mtG N sc g e = true) : GrdOk ft k N tabs sc g e := by
  cases g with
  | no => cases e with
    | none => exact trivial
    | some _ => exact ff h
  | so x => cases e with
    | none => exact ff h
    | some e => exact (etE ft x e h).2
theorem inv_mat {sc : Scope} {i : Nat} {cs : CL} {st : Stmt} (h : mtSt N sc (.mat i cs) st = true) : ∃ y py cases p, st = .Match (.Name y py) cases p ∧ slotB' N sc i y = true ∧ mtCs N sc cs cases = true := by
  cases st with
  | Match s cases p =>
    cases s <;> first | exact ff h | skip
    simp only [mtSt, Bool.and_eq_true] at h
    exact ⟨_, _, _, _, rfl, h.1, h.2⟩
  | _ => exact ff h
theorem inv_wh {sc : Scope} {c : R.X} {b : SL} {st : Stmt} (h : mtSt N sc (.wh c b) st = true) : ∃ ec sb p, st = .While ec sb [] p ∧ mtE N sc c ec = true ∧ mtSl N sc b sb = true := by
  cases st with
  | While ec sb els p =>
    cases els <;> first | exact ff h | skip
    simp only [mtSt, Bool.and_eq_true] at h
    exact ⟨_, _, _, rfl, h.1, h.2⟩
  | _ => exact ff h
theorem inv_for1 {sc : Scope} {i : Nat} {src : XS} {b : SL} {st : Stmt} (h : mtSt N sc (.for1 i src b) st = true) : ∃ y py iter body p, st = .For (.Name y py) iter body [] p ∧ nameB N sc i y = true ∧ noSet iter = true ∧ mtSv N sc src iter = true ∧ mtSl N sc b body = true := by
  cases st with
  | For tg iter body els p =>
    cases tg <;> cases els <;> first | exact ff h | skip
    simp only [mtSt, Bool.and_eq_true] at h
    exact ⟨_, _, _, _, _, rfl, h.1.1.1, h.1.1.2, h.1.2, h.2⟩
  | _ => exact ff h
theorem inv_forT {sc : Scope} {is : List Nat} {src : XS} {b : SL} {st : Stmt} (h : mtSt N sc (.forT is src b) st = true) : ∃ ts kt pt iter body p, st = .For (.Tuple ts kt pt) iter body [] p ∧ tgsB N sc is ts = true ∧ noSet iter = true ∧ mtSv N sc src iter = true ∧ mtSl N sc b body = true := by
  cases st with
  | For tg iter body els p =>
    cases tg <;> cases els <;> first | exact ff h | skip
    simp only [mtSt, Bool.and_eq_true] at h
    exact ⟨_, _, _, _, _, _, rfl, h.1.1.1, h.1.1.2, h.1.2, h.2⟩
  | _ => exact ff h
theorem tl_at {sc : Scope} {i : Nat} {x : R.X} {t : T} {sts : List Stmt} (h : ((setO N sc i sts).any fun q => mtE N sc x q.1 && mtT N sc i t q.2) = true) : SSl ft k N tabs sc (.cons (.tl i x t) .nil) sts := by
  obtain ⟨⟨ex, rest⟩, h1, h2⟩ := any_some h
  rw [Bool.and_eq_true] at h2
  unfold setO at h1
  split at h1
  · split at h1
    · rename_i c
      rw [Bool.and_eq_true] at c
      cases h1
      exact ss_tl c.1 c.2 (etE ft x ex h2.1).1 h2.2
    · cases h1
  · cases h1
theorem inv_cons {sc : Scope} {s : R.S} {l : SL} {sts : List Stmt} (h : mtSl N sc (.cons s l) sts = true) : (∃ i, s = .frz i ∧ mtSl N sc l sts = true) ∨ (∃ i x t, s = .tl i x t ∧ l = .nil ∧ ((setO N sc i sts).any fun q => mtE N sc x q.1 && mtT N sc i t q.2) = true) ∨
    ∃ st r, sts = st :: r ∧ mtSt N sc s st = true ∧ mtSl N sc l r = true := by
  by_cases hs : ∃ i, s = .frz i
  · obtain ⟨i, rfl⟩ := hs
    exact .inl ⟨i, rfl, by simpa only [mtSl] using h⟩
  · by_cases ht : ∃ i x t, s = .tl i x t
    · obtain ⟨i, x, t, rfl⟩ := ht
      cases l with
      | nil => exact .inr (.inl ⟨i, x, t, rfl, rfl, h⟩)
      | cons s2 l2 =>
        cases sts with
        | nil => exact ff h
        | cons st sts =>
          exfalso
          have h2 : (mtSt N sc (.tl i x t) st && mtSl N sc (.cons s2 l2) sts) = true := h
          rw [Bool.and_eq_true] at h2
          have h3 := h2.1
          cases st <;> exact ff h3
    · cases sts with
      | nil => cases s <;> first | exact ff h | exact absurd ⟨_, rfl⟩ hs | exact absurd ⟨_, _, _, rfl⟩ ht
      | cons st sts =>
        have h2 : mtSt N sc s st = true ∧ mtSl N sc l sts = true := by
          cases s <;> first | exact absurd ⟨_, rfl⟩ hs | exact absurd ⟨_, _, _, rfl⟩ ht | exact (Bool.and_eq_true _ _).mp h
        exact .inr (.inr ⟨_, _, rfl, h2.1, h2.2⟩)
theorem inv_nil {sc : Scope} {sts : List Stmt} (h : mtSl N sc .nil sts = true) : sts = [] := by
  cases sts with
  | nil => rfl
  | cons _ _ => exact ff h
mutual
theorem stE {sc : Scope} : ∀ (x : S) (st : Stmt), mtSt N sc x st = true → SSt ft k N tabs sc x st
  | .pass, st, h => st1_pass h
  | .brk, st, h => st1_brk h
  | .cont, st, h => st1_cont h
  | .set i x, st, h => st1_set h
  | .unp is x, st, h => st1_unp h
  | .sti i ix x, st, h => st1_sti h
  | .app i x, st, h => st1_app h
  | .xt i x, st, h => st1_xt h
  | .aug i c, st, h => st1_aug h
  | .unk, st, h => ss_unk
  | .mat i cs, st, h => by
    obtain ⟨y, py, cases, p, rfl, h1, h2⟩ := inv_mat h
    exact ss_mat h1 (casesE cs cases h2)
  | .wh c b, st, h => by
    obtain ⟨ec, sb, p, rfl, h1, h2⟩ := inv_wh h
    exact ss_while (etE ft c ec h1).2 (stlE b sb h2)
  | .rev i, st, h => st1_rev h
  | .pop i, st, h => st1_pop h
  | .ret x, st, h => st1_ret h
  | .retn, st, h => st1_retn h
  | .mc dd f es, st, h => st1_mc h
  | .ex x, st, h => st1_ex h
  | .frz i, st, h => st1_frz h
  | .tl _ _ _, st, h => by cases st <;> exact ff h
  | .ife c a b, st, h => by
    obtain ⟨ec, sa, sb, p, rfl, h1, h2, h3⟩ := inv_ife h
    exact ss_ife (etE ft c ec h1).2 (stlE a sa h2) (stlE b sb h3)
  | .for1 i src b, st, h => by
    obtain ⟨y, py, iter, body, p, rfl, h1, h2, h3, h4⟩ := inv_for1 h
    exact ss_for1 h1 h2 (ssvE src iter h3) (stlE b body h4)
  | .forT is src b, st, h => by
    obtain ⟨ts, kt, pt, iter, body, p, rfl, h1, h2, h3, h4⟩ := inv_forT h
    exact ss_forT h1 h2 (ssvE src iter h3) (stlE b body h4)
  termination_by structural x => x
theorem stlE {sc : Scope} : ∀ (x : SL) (sts : List Stmt), mtSl N sc x sts = true → SSl ft k N tabs sc x sts
  | .nil, sts, h => by
    cases inv_nil h
    exact sl_nil
  | .cons s l, sts, h => by
    rcases inv_cons h with ⟨i, rfl, h1⟩ | ⟨i, x, t, rfl, rfl, h1⟩ | ⟨st, r, rfl, h1, h2⟩
    · exact sl_frz (stlE l sts h1)
    · exact tl_at h1
    · exact sl_cons (stE s st h1) (stlE l r h2)
  termination_by structural x => x
theorem casesE {sc : Scope} : ∀ (x : CL) (cases : List MatchCase), mtCs N sc x cases = true → CsOk ft k N tabs sc x cases
  | .nil, [], _ => trivial
  | .nil, _ :: _, h => ff h
  | .cons _ _ _ _, [], h => ff h
  | .cons p g b cs, c :: rest, h => by
    have h2 : (mtPt N sc p c.pattern && mtG N sc g c.guard && mtSl N sc b c.body && mtCs N sc cs rest) = true := h
    simp only [Bool.and_eq_true] at h2
    exact ⟨h2.1.1.1, grd_ok h2.1.1.2, stlE b c.body h2.1.2, casesE cs rest h2.2⟩
  termination_by structural x => x
end
end R
namespace R
open PySem PySem.Spec PyProof.Rows L2
variable {ft : FT} {k : Nat} {N : List Str} {tabs : List Addr}
/-! ### defs -/
/-- what is known beside a def -/
structure LE (ft : FT) (k : Nat) (P : Program) (w : World) (K : PySem.W.Frag) (mg : Str → Option Value) (base : Heap) (tabs : List Addr) : Prop where
  bi : ∀ x, x ∈ biNames → mg x = none
  fn : ∀ f s, ft.fn f = some s → ∃ (a : Addr) (fd : FuncData) (ps : List Str), mg f = some (.ref a) ∧ PySem.W.keepIn K (.ref a) = true ∧ Binds K fd ps [] ∧ ps.length = s.n ∧
    FnOk P w K mg base (CX P w) k a fd ps (spD K mg tabs s)
  gl : ∀ n d, ft.gl n = some d → ∃ v u, mg n = some u ∧ RelV v u ∧ ∀ H O, Rp K H O v d
theorem LE.mono {P : Program} {w : World} {K : PySem.W.Frag} {mg : Str → Option Value} {base : Heap} {j : Nat} (L : LE ft j P w K mg base tabs) (h : j ≤ k) : LE ft k P w K mg base tabs :=
  ⟨L.bi, fun f s e => let ⟨a, fd, ps, h1, h2, h3, h4, h5⟩ := L.fn f s e; ⟨a, fd, ps, h1, h2, h3, h4, h5.mono h⟩, L.gl⟩
/-- the slots at a def's entry -/
def startP (mu : List Nat) : Nat → List R.D → Env1
  | _, [] => []
  | p, d :: ds => (if p ∈ mu then Slot.ow false false d else Slot.sh false d) :: startP mu (p + 1) ds
def startE (mu : List Nat) (total : Nat) (ds : List R.D) : Env1 := startP mu 0 ds ++ List.replicate (total - ds.length) Slot.no
def muAt (env : Env1) (i : Nat) : Option R.D := match env[i]? with
  | some (.ow false _ d) => some d
  | _ => none
def musOf (env : Env1) : List Nat → List R.D
  | [] => []
  | i :: is => (match muAt env i with | some d => d | none => .none) :: musOf env is
/-- what a def's body makes of its arguments -/
def endD (s : FSpec) : Option Oc → Ex (R.D × List R.D)
  | some (.nx env) => if s.kd.own = false then ok (.none, musOf env s.mu) else none
  | some (.rt env kd d) => if (s.kd.own = true → kd.own = true) ∧ (s.kd.fr = true → (kd.fr || noMut d) = true) then ok (d, musOf env s.mu) else none
  | some (.er c) => some (.error c)
  | _ => none
def evDef (ft : FT) (total : Nat) (s : FSpec) (body : SL) (ds : List R.D) : Ex (R.D × List R.D) := endD s (evSl ft body (startE s.mu total ds))
theorem startP_len {mu : List Nat} : ∀ {p : Nat} {ds : List R.D}, (startP mu p ds).length = ds.length
  | _, [] => rfl
  | p, d :: ds => by simp [startP, startP_len]
theorem startP_get {mu : List Nat} : ∀ {p : Nat} {ds : List R.D} {i : Nat}, (startP mu p ds)[i]? = (ds[i]?).map fun d => if p + i ∈ mu then Slot.ow false false d else Slot.sh false d
  | _, [], i => by simp [startP]
  | p, d :: ds, 0 => by simp [startP]
  | p, d :: ds, i + 1 => by
    simp only [startP, List.getElem?_cons_succ]
    rw [startP_get, Nat.add_right_comm]; rfl
theorem startE_get {mu : List Nat} {t : Nat} {ds : List R.D} {i : Nat} {sl : Slot} (h : (startE mu t ds)[i]? = some sl) : (∃ d, ds[i]? = some d ∧ sl = if i ∈ mu then Slot.ow false false d else Slot.sh false d) ∨ sl = .no := by
  unfold startE at h
  by_cases hi : i < (startP mu 0 ds).length
  · rw [List.getElem?_append_left hi, startP_get] at h
    cases e : ds[i]? with
    | none => rw [e] at h; cases h
    | some d =>
      rw [e] at h
      cases h
      exact .inl ⟨d, rfl, by simp⟩
  · rw [List.getElem?_append_right (Nat.le_of_not_lt hi)] at h
    right
    have := List.mem_of_getElem? h
    exact (List.mem_replicate.mp this).2
theorem start_get {N : List Str} {vs : List V} {i : Nat} {v : V} (h : vs[i]? = some v) : (L2.start N vs)[i]? = some (some v) := by
  unfold L2.start
  have hi : i < vs.length := (List.getElem?_eq_some_iff.mp h).1
  rw [List.getElem?_append_left (by rw [List.length_map]; exact hi), List.getElem?_map, h]; rfl
theorem OwAt.up {K : PySem.W.Frag} {H : Hp} {O O' : Addr → Prop} {a : Addr} {d : R.D} (h : OwAt K H O a d) (e : ∀ b, O' b → O b) : OwAt K H O' a d := h.less e
theorem musOf_get {env : Env1} : ∀ {mu : List Nat} {j i : Nat}, mu[j]? = some i → (musOf env mu)[j]? = some (match muAt env i with | some d => d | none => .none)
  | [], j, i, h => by simp at h
  | m :: mu, 0, i, h => by simp at h; subst h; rfl
  | m :: mu, j + 1, i, h => by
    have h' : mu[j]? = some i := by simpa using h
    simp only [musOf, List.getElem?_cons_succ]
    exact musOf_get h'
section
variable {P : Program} {w : World} {K : PySem.W.Frag} {mg : Str → Option Value} {base : Heap}
theorem spD_len {s : FSpec} {ps : List Str} (hn : ps.length = s.n) : ∀ vs H Q E, spD K mg tabs s vs H Q E → vs.length = ps.length := by
  rintro vs H Q E ⟨ds, O, r, h, _⟩
  rw [h, hn]
/-- a def by what its body tells -/
theorem def_ok {k' : Nat} {x qual : Str} {st : Stmt} {a : Addr} {fd : FuncData} {ps : List Str} (L : LE ft k P w K mg base tabs) (F : Fun K x qual st a fd) (S : FnScope N ps (defScope st)) (body : SL) (hm : mtSl N (defScope st) body (defBody st) = true) (s : FSpec) (hn : ps.length = s.n)
    (hF : ∀ ds r, ds.length = s.n → s.F ds = some r → evDef ft N.length s body ds = some r) (hk : k ≤ k')
    (hge : ft.ge = true → k + 1 ≤ k' ∧ ∀ cdv, (∃ kV doc pm an ct, fd = PySem.W.fnOf x qual (defArgs st) (defBody st) (defScope st) .none kV doc pm an cdv ct) → ∃ c P, cdv = .ref c ∧ GxR.TabB base mg c P ∧ P ∈ tabs) :
    FnOk P w K mg base (CX P w) (k' + 1) a fd ps (spD K mg tabs s) := by
  obtain ⟨oc, od, kV, doc, pm, an, cdv, ct, osl, rfl, lk, hcd⟩ := F.ex
  refine fn_of lk hcd S (spD_len hn) fun A outer sh H vs Q E hr hsp => ?_
  obtain ⟨ds, O, r, hl, hdl, ho, hmo, htb, hsh, how, hinj, hFd, hok, herr⟩ := hsp
  have ev := hF ds r hdl hFd
  generalize hX : cxOf (CX P w) P w K mg base N qual (defScope st) a cdv A outer sh H E = X
  have hXK : X.K = K := by rw [← hX]; rfl
  have hXm : X.mg = mg := by rw [← hX]; rfl
  have gc : GC ft k N tabs (fun cls d _ H => E cls d H) X (defScope st) := by
    subst hX
    refine ⟨fun y h => ?_, fun y h => ?_, fun y h => ?_, fun y h => h, rfl, S.nd, rfl, hr.mono hk, L.bi, L.fn, L.gl, takes_of rfl rfl rfl rfl, fun h => ⟨hr.mono (hge h).1, (hge h).2 cdv ⟨_, _, _, _, _, rfl⟩⟩⟩
    · unfold visB at h
      show (defScope st).names.lookup y = _ ∨ (defScope st).names.lookup y = _ ∨ (defScope st).names.lookup y = _
      cases e : (defScope st).names.lookup y with
      | none => rw [e] at h; cases h
      | some kd =>
        rw [e] at h
        cases kd with
        | «local» => exact .inl rfl
        | cell => exact .inr (.inl rfl)
        | free => exact .inr (.inr rfl)
        | _ => cases h
    · unfold glbB at h
      show (defScope st).names.lookup y = _
      cases e : (defScope st).names.lookup y with
      | none => rw [e] at h; cases h
      | some kd =>
        rw [e] at h
        cases kd with
        | globalImplicit => rfl
        | _ => cases h
    · unfold locB at h
      show (defScope st).names.lookup y = _
      cases e : (defScope st).names.lookup y with
      | none => rw [e] at h; cases h
      | some kd =>
        rw [e] at h
        cases kd with
        | «local» => rfl
        | _ => cases h
  have po : PassesOwn (model X.prog X.w) X.A X.env X.xe := by
    subst hX
    exact passes_of (X := cxOf (CX P w) P w K mg base N qual (defScope st) a cdv A outer sh H E) rfl
  have dc : DC ft k N tabs (fun cls d _ H => E cls d H) (defScope st) H O (MuA s.mu vs) X := ⟨gc, po, by subst hX; exact fun _ => rfl, by subst hX; rfl, ho, hmo⟩
  have hle : ps.length ≤ N.length := by
    have := congrArg List.length S.pre
    rw [List.length_take] at this
    omega
  have vat : ∀ (i : Nat) (d : R.D), ds[i]? = some d → ∃ v, vs[i]? = some v := fun i d e => by
    have hi : i < ds.length := (List.getElem?_eq_some_iff.mp e).1
    have hi2 : i < vs.length := by omega
    exact ⟨vs[i], List.getElem?_eq_getElem hi2⟩
  have muI : ∀ (i : Nat) b, OwnI (L2.start N vs) (startE s.mu N.length ds) i b → i ∈ s.mu ∧ vs[i]? = some (V.ref b) := by
    rintro i b ⟨n, f, d, e1, e2⟩
    rcases startE_get e1 with ⟨d', e3, e4⟩ | e4
    · split at e4
      · rename_i hi
        obtain ⟨v, ev⟩ := vat i d' e3
        rw [start_get ev] at e2
        cases e2
        exact ⟨hi, ev⟩
      · cases e4
    · cases e4
  have fbO : ∀ b, Fbs H O (L2.start N vs) (startE s.mu N.length ds) false b → O b := fun b z => by
    rcases z with z | ⟨i, z⟩
    · exact z
    · exact hmo b ⟨i, muI i b z⟩
  have sv : SV tabs X H O (MuA s.mu vs) (fun i b => i ∈ s.mu ∧ vs[i]? = some (V.ref b)) (L2.start N vs) H (startE s.mu N.length ds) := by
    refine ⟨⟨?_, fun i f d e => ?_, fun i n f d e => ?_⟩, fun i j b h h' => ?_, fun i f d b e1 e2 => ?_, fun i f d b e1 e2 => ⟨i, muI i b ⟨_, _, _, e1, e2⟩⟩, fun i b h => ?_, GrM.refl, htb⟩
    · unfold startE L2.start
      simp only [List.length_append, startP_len, List.length_replicate, List.length_map]
      omega
    · rcases startE_get e with ⟨d', e3, e4⟩ | e4
      · split at e4
        · cases e4
        · rename_i hi
          cases e4
          obtain ⟨v, ev⟩ := vat i d e3
          rw [hXK]
          exact ⟨v, start_get ev, (hsh i v d hi ev e3).less fbO⟩
      · cases e4
    · rcases startE_get e with ⟨d', e3, e4⟩ | e4
      · split at e4
        · rename_i hi
          cases e4
          obtain ⟨b, eb, ob⟩ := how i d hi e3
          rw [hXK]
          exact ⟨b, start_get eb, ob.less fbO⟩
        · cases e4
      · cases e4
    · obtain ⟨a1, a2⟩ := muI i b h
      obtain ⟨b1, b2⟩ := muI j b h'
      exact hinj i j b a1 b1 a2 b2
    · rcases startE_get e1 with ⟨d', e3, e4⟩ | e4
      · split at e4 <;> cases e4
      · cases e4
    · obtain ⟨hi, hv⟩ := h
      have hil : i < vs.length := (List.getElem?_eq_some_iff.mp hv).1
      have hid : i < ds.length := by omega
      refine ⟨false, ds[i], ?_, start_get hv⟩
      unfold startE
      rw [List.getElem?_append_left (by rw [startP_len]; exact hid), startP_get, List.getElem?_eq_getElem hid]
      simp [hi]
  -- what the changed ones hold at the end
  have muEnd : ∀ {σ' : L2.St} {H' : Hp} {e' : Env1}, SV tabs X H O (MuA s.mu vs) (fun i b => i ∈ s.mu ∧ vs[i]? = some (V.ref b)) σ' H' e' →
      ∀ (j i : Nat) (b : Addr), s.mu[j]? = some i → vs[i]? = some (V.ref b) → ∃ m, (musOf e' s.mu)[j]? = some m ∧ OwAt K H' O b m := by
    intro σ' H' e' S' j i b hj hv
    obtain ⟨f, d, e1, e2⟩ := S'.mu i b ⟨List.mem_of_getElem? hj, hv⟩
    obtain ⟨b', e3, ow⟩ := S'.ev.ow i false f d e1
    rw [e2] at e3; cases e3
    refine ⟨d, ?_, ?_⟩
    · rw [musOf_get hj]
      have : muAt e' i = some d := by unfold muAt; rw [e1]
      rw [this]
    · rw [hXK] at ow
      refine ow.less fun c hc => .inl ?_
      cases f with
      | true => exact ho c hc
      | false => exact hc
  refine ⟨SDs X (defBody st), by subst hX; exact pss_S, ?_⟩
  unfold evDef at ev
  cases hoc : evSl ft body (startE s.mu N.length ds) with
  | none => rw [hoc] at ev; cases ev
  | some oc =>
    rw [hoc] at ev
    refine (stlE body (defBody st) hm) X _ H O (MuA s.mu vs) _ _ H _ oc _ dc sv hoc ?_
    cases oc with
    | nx e' =>
      unfold endD at ev
      simp only at ev
      split at ev
      · rename_i hk
        cases ev
        intro σ' H' S' F'
        exact hok _ _ rfl _ H' S'.gr ⟨.non, fun z => by rw [hk] at z; cases z⟩ (muEnd S')
      · cases ev
    | bk e' => cases ev
    | ct e' => cases ev
    | rt e' kd d =>
      unfold endD at ev
      simp only at ev
      split at ev
      · rename_i hk
        cases ev
        intro v σ' H' S' F' vr
        rw [hXK] at vr
        have up : ∀ b, forb H O s.kd.fr b → noMut d = true ∨ forb H O kd.fr b := by
          intro b z
          cases e1 : s.kd.fr with
          | true =>
            have := hk.2 e1
            rw [e1] at z
            cases e2 : kd.fr with
            | true => exact .inr z
            | false => rw [e2] at this; exact .inl (by simpa using this)
          | false =>
            rw [e1] at z
            cases e2 : kd.fr with
            | true => exact .inr (ho b z)
            | false => exact .inr z
        refine hok _ _ rfl v H' S'.gr ⟨?_, fun z => ?_⟩ (muEnd S')
        · by_cases hnm : noMut d = true
          · exact vr.1.free hnm
          · exact vr.1.less fun b z => (up b z).resolve_left hnm
        · obtain ⟨b, e1, e2, ow⟩ := vr.2 (hk.1 z)
          refine ⟨b, e1, e2, ?_⟩
          by_cases hnm : noMut d = true
          · cases ow with
            | lst _ _ => simp [noMut] at hnm
            | dct _ _ => simp [noMut] at hnm
          · exact ow.less fun c hc => hc.imp (fun z => (up c z).resolve_left hnm) id
      · cases ev
    | er c =>
      cases ev
      intro C hC σ' H' g
      exact herr c rfl C (by rw [← hXm]; exact hC) H' g
end
end R
set_option maxHeartbeats 2000000
namespace R
open PySem PySem.Spec PyProof.Rows L2
variable {α β : Type} {f g : Bool} {i j : Int} {d e : D} {xs ys : List D} {env : Env1} {r : Rs} {kd : Kd} {ft : FT}
/-! ### evaluation, by rewriting -/
theorem bnd_ok (a : α) (h : α → Ex β) : bnd (some (.ok a)) h = h a := Eq.trans rfl rfl
theorem bnd_ok' (a : α) (h : α → Ex β) : bnd (ok a) h = h a := Eq.trans rfl rfl
theorem exO_ok (a : α) (h : α → Option Oc) : exO (some (.ok a)) h = h a := Eq.trans rfl rfl
theorem exO_ok' (a : α) (h : α → Option Oc) : exO (ok a) h = h a := Eq.trans rfl rfl
theorem lift_some (a : α) : lift (some a) = some (.ok a) := Eq.trans rfl rfl
theorem seqO_nx (e : Env1) (h : Env1 → Option Oc) : seqO (some (.nx e)) h = h e := Eq.trans rfl rfl
theorem seqO_rt (e : Env1) (kd : Kd) (d : D) (h : Env1 → Option Oc) : seqO (some (.rt e kd d)) h = some (.rt e kd d) := Eq.trans rfl rfl
theorem slotV_sh : slotV (some (.sh f d)) = some (⟨false, f || noMut d⟩, d) := Eq.trans rfl rfl
theorem slotB_sh : slotB (some (.sh f d)) = some (f || noMut d, d) := Eq.trans rfl rfl
theorem slotB_ow {n : Bool} : slotB (some (.ow n f d)) = some (f, d) := Eq.trans rfl rfl
theorem toB_ok : toB (some (.ok (kd, d))) = some (.ok (kd.fr, d)) := Eq.trans rfl rfl
theorem brw_v {n : Nat} : brw env (.v n) r = lift (slotB env[n]?) := Eq.trans rfl rfl
theorem brw_k {d : D} : brw env (.k d) r = toB r := Eq.trans rfl rfl
theorem brw_g {n : Str} : brw env (.g n) r = toB r := Eq.trans rfl rfl
theorem brw_neg {a : X} : brw env (.neg a) r = toB r := Eq.trans rfl rfl
theorem brw_tup {a : XL} : brw env (.tup a) r = toB r := Eq.trans rfl rfl
theorem brw_lst {a : XL} : brw env (.lst a) r = toB r := Eq.trans rfl rfl
theorem brw_bin {o : Operator} {a b : X} : brw env (.bin o a b) r = toB r := Eq.trans rfl rfl
theorem brw_cmp {o : CmpOp} {a b : X} : brw env (.cmp o a b) r = toB r := Eq.trans rfl rfl
theorem brw_ch {o o' : CmpOp} {a b c : X} : brw env (.ch o o' a b c) r = toB r := Eq.trans rfl rfl
theorem brw_and {a b : X} : brw env (.and a b) r = toB r := Eq.trans rfl rfl
theorem brw_or {a b : X} : brw env (.or a b) r = toB r := Eq.trans rfl rfl
theorem brw_not {a : X} : brw env (.not a) r = toB r := Eq.trans rfl rfl
theorem brw_ife {a b c : X} : brw env (.ife a b c) r = toB r := Eq.trans rfl rfl
theorem brw_call {n : Str} {a : XL} : brw env (.call n a) r = toB r := Eq.trans rfl rfl
theorem brw_bf {n : Str} {a : XL} : brw env (.bf n a) r = toB r := Eq.trans rfl rfl
theorem brw_isi {a : X} {ts : List Str} {b : Bool} : brw env (.isi a ts b) r = toB r := Eq.trans rfl rfl
theorem brw_ix {a b : X} : brw env (.ix a b) r = toB r := Eq.trans rfl rfl
theorem brw_sl {a : X} {b c : XO} : brw env (.sl a b c) r = toB r := Eq.trans rfl rfl
theorem brw_lc {n : Nat} {a : XS} {b : XO} {c : X} : brw env (.lc n a b c) r = toB r := Eq.trans rfl rfl
theorem brw_vals {a : X} : brw env (.vals a) r = toB r := Eq.trans rfl rfl
theorem bin_add : binE .Add (f, .int i) (g, .int j) = some (sc (.int (i + j))) := Eq.trans rfl rfl
theorem bin_sub : binE .Sub (f, .int i) (g, .int j) = some (sc (.int (i - j))) := Eq.trans rfl rfl
theorem bin_mul : binE .Mult (f, .int i) (g, .int j) = if mulOk i j then some (sc (.int (i * j))) else none := Eq.trans rfl rfl
theorem bin_div : binE .FloorDiv (f, .int i) (g, .int j) = if decide (0 < j ∧ j < 1073741824) then some (sc (.int (i / j))) else none := Eq.trans rfl rfl
theorem bin_mod : binE .Mod (f, .int i) (g, .int j) = if decide (0 < j) then some (sc (.int (i % j))) else none := Eq.trans rfl rfl
theorem mul_r (h : smallI j = true) : mulOk i j = true := by unfold mulOk; rw [h]; simp
theorem mul_l (h : smallI i = true) : mulOk i j = true := by unfold mulOk; rw [h]; simp
theorem bf_len_l : bfE "len" [(f, .list xs)] = some (sc (.int xs.length)) := Eq.trans rfl rfl
theorem ix_l : ixE (f, .list xs) (g, .int i) = (atI xs i).map fun d => (⟨false, f⟩, d) := Eq.trans rfl rfl
theorem ix_t : ixE (f, .tuple xs) (g, .int i) = (atI xs i).map fun d => (⟨false, f⟩, d) := Eq.trans rfl rfl
theorem cmp_gt : cmpE .Gt (f, .int i) (g, .int j) = some (decide (j < i)) := Eq.trans rfl rfl
theorem cmp_lt : cmpE .Lt (f, .int i) (g, .int j) = some (decide (i < j)) := Eq.trans rfl rfl
theorem cmp_eqi : cmpE .Eq (f, .int i) (g, .int j) = some (decide (i = j)) := by
  unfold cmpE shapedB SeqAt.shaped PyData.eqv
  simp
  refine ⟨⟨⟨by first | rfl | simp [PyData.canLay0], by first | decide | simp [PyData.depth]⟩, by first | rfl | simp [PyData.canLay0], by first | decide | simp [PyData.depth]⟩, by first | rfl | simp⟩
theorem trE_ok : trE (some (.ok (f, d))) = lift (truthE d) := Eq.trans rfl rfl
theorem putS_sh {n : Nat} (h : n < env.length) (hm : mutOld env[n]? = false) (k : Kd) : putS env n k d = some (env.set n (slotOf k d)) := by
  unfold putS; rw [if_pos ⟨h, hm⟩]
end R
namespace R
open PySem PySem.Spec PyProof.Rows L2
variable {α β : Type} {f g : Bool} {i j : Int} {d e : D} {xs ys : List D} {env : Env1} {r : Rs} {kd : Kd} {ft : FT}
/-- bnd, kept shut -/
@[irreducible] def bd {α β : Type} (r : Ex α) (h : α → Ex β) : Ex β := bnd r h
theorem bd_eq (r : Ex α) (h : α → Ex β) : bd r h = bnd r h := by unfold bd; rfl
theorem bd_ok (a : α) (h : α → Ex β) : bd (some (.ok a)) h = h a := by rw [bd_eq]
theorem bd_ok' (a : α) (h : α → Ex β) : bd (ok a) h = h a := by rw [bd_eq]
/-- a call, its def known -/
def callK (o : Option FSpec) (q : Ex (Bool × List D)) (q2 : Ex (List (Bool × D))) : Rs := match o with
  | some s => if s.kd.fr = true then bnd q2 fun q => if s.mu = [] ∧ q.length = s.n then bnd (s.F (q.map (·.2))) fun r => ok (⟨s.kd.own, s.kd.fr || noMut r.1⟩, r.1) else none
    else bnd q fun q => if s.mu = [] ∧ q.2.length = s.n then bnd (s.F q.2) fun r => ok (⟨s.kd.own, s.kd.fr || noMut r.1⟩, r.1) else none
  | none => none
def callR (kd : Kd) (q : Ex (D × List D)) : Rs := bnd q fun r => ok (⟨kd.own, kd.fr || noMut r.1⟩, r.1)
theorem evE_call {n : Str} {es : XL} : evE ft (.call n es) env = callK (ft.fn n) (evL ft es env) (evBL ft es env) := by
  (unfold callK; simp only [evE]) <;> (cases ft.fn n <;> rfl)
theorem callK_ok {s : FSpec} {b : Bool} {ds : List D} {q2 : Ex (List (Bool × D))} (hf : s.kd.fr = false) (hm : s.mu = []) (hl : ds.length = s.n) : callK (some s) (some (.ok (b, ds))) q2 = callR s.kd (s.F ds) := by
  show (if s.kd.fr = true then _ else (if s.mu = [] ∧ ds.length = s.n then bnd (s.F ds) (fun r => ok ((⟨s.kd.own, s.kd.fr || noMut r.1⟩ : Kd), r.1)) else none)) = _
  rw [if_neg (by rw [hf]; decide), if_pos ⟨hm, hl⟩]
  rfl
theorem callK_b {s : FSpec} {qs : List (Bool × D)} {q : Ex (Bool × List D)} (hf : s.kd.fr = true) (hm : s.mu = []) (hl : qs.length = s.n) : callK (some s) q (some (.ok qs)) = callR s.kd (s.F (qs.map (·.2))) := by
  show (if s.kd.fr = true then (if s.mu = [] ∧ qs.length = s.n then bnd (s.F (qs.map (·.2))) (fun r => ok ((⟨s.kd.own, s.kd.fr || noMut r.1⟩ : Kd), r.1)) else none) else _) = _
  rw [if_pos hf, if_pos ⟨hm, hl⟩]
  rfl
theorem callK_b0 {s : FSpec} {q : Ex (Bool × List D)} (hf : s.kd.fr = true) (hm : s.mu = []) (hl : s.n = 0) : callK (some s) q (some (.ok [])) = callR s.kd (s.F []) := callK_b hf hm hl.symm
theorem callK_b1 {s : FSpec} {f1 : Bool} {d1 : D} {q : Ex (Bool × List D)} (hf : s.kd.fr = true) (hm : s.mu = []) (hl : s.n = 1) : callK (some s) q (some (.ok [(f1, d1)])) = callR s.kd (s.F [d1]) := callK_b hf hm hl.symm
theorem callK_b2 {s : FSpec} {f1 f2 : Bool} {d1 d2 : D} {q : Ex (Bool × List D)} (hf : s.kd.fr = true) (hm : s.mu = []) (hl : s.n = 2) : callK (some s) q (some (.ok [(f1, d1), (f2, d2)])) = callR s.kd (s.F [d1, d2]) := callK_b hf hm hl.symm
theorem callK_b3 {s : FSpec} {f1 f2 f3 : Bool} {d1 d2 d3 : D} {q : Ex (Bool × List D)} (hf : s.kd.fr = true) (hm : s.mu = []) (hl : s.n = 3) : callK (some s) q (some (.ok [(f1, d1), (f2, d2), (f3, d3)])) = callR s.kd (s.F [d1, d2, d3]) := callK_b hf hm hl.symm
theorem callK_b4 {s : FSpec} {f1 f2 f3 f4 : Bool} {d1 d2 d3 d4 : D} {q : Ex (Bool × List D)} (hf : s.kd.fr = true) (hm : s.mu = []) (hl : s.n = 4) : callK (some s) q (some (.ok [(f1, d1), (f2, d2), (f3, d3), (f4, d4)])) = callR s.kd (s.F [d1, d2, d3, d4]) := callK_b hf hm hl.symm
theorem callR_ok {ms : List D} : callR kd (some (.ok (d, ms))) = some (.ok (⟨kd.own, kd.fr || noMut d⟩, d)) := by
  unfold callR; rfl
theorem seqO_er (c : Str) (h : Env1 → Option Oc) : seqO (some (.er c)) h = some (.er c) := Eq.trans rfl rfl
theorem evSl_nil {ft : FT} {env : Env1} : evSl ft .nil env = some (.nx env) := Eq.trans rfl rfl
theorem evSl_cons {ft : FT} {s : S} {l : SL} {env : Env1} : evSl ft (.cons s l) env = seqO (evSt ft s env) (fun e => evSl ft l e) := Eq.trans rfl rfl
theorem evE_v {n : Nat} : evE ft (.v n) env = lift (slotV env[n]?) := Eq.trans rfl rfl
theorem evE_k : evE ft (.k d) env = if isSc d = true then ok (sc d) else none := Eq.trans rfl rfl
theorem evE_dnew : evE ft .dnew env = some (.ok (⟨true, true⟩, .dict [])) := Eq.trans rfl rfl
theorem evE_tup {es : XL} : evE ft (.tup es) env = bd (evL ft es env) fun q => if lenOk q.2.length = true then ok (⟨false, q.1⟩, .tuple q.2) else none := by simp only [bd_eq]; rfl
theorem evE_lst {es : XL} : evE ft (.lst es) env = bd (evL ft es env) fun q => if lenOk q.2.length = true then ok (⟨true, q.1⟩, .list q.2) else none := by simp only [bd_eq]; rfl
theorem evE_bin {o : Operator} {a b : X} : evE ft (.bin o a b) env = bd (brw env a (evE ft a env)) fun x => bd (brw env b (evE ft b env)) fun y => lift (binE o x y) := by simp only [bd_eq]; rfl
theorem evE_cmp {o : CmpOp} {a b : X} : evE ft (.cmp o a b) env = bd (brw env a (evE ft a env)) fun x => bd (brw env b (evE ft b env)) fun y => lift ((cmpE o x y).map fun b => sc (.bool b)) := by simp only [bd_eq]; rfl
theorem evE_ch {o o' : CmpOp} {a b c : X} : evE ft (.ch o o' a b c) env = bd (brw env a (evE ft a env)) fun x => bd (brw env b (evE ft b env)) fun y => bd (lift (cmpE o x y)) fun t =>
      if t = true then bd (brw env c (evE ft c env)) fun z => lift ((cmpE o' y z).map fun b => sc (.bool b)) else ok (sc (.bool false)) := by simp only [bd_eq]; rfl
/-- and, or: what comes behind a truth -/
def andK (r : Rs) (s : Rs) : Rs := bnd r fun r => match r.2 with
      | .bool t => if t = true then s else ok (sc (.bool false))
      | _ => none
def orK (r : Rs) (s : Rs) : Rs := bnd r fun r => match r.2 with
      | .bool t => if t = true then ok (sc (.bool true)) else s
      | _ => none
theorem evE_and {a b : X} : evE ft (.and a b) env = andK (evE ft a env) (evE ft b env) := Eq.trans rfl rfl
theorem evE_or {a b : X} : evE ft (.or a b) env = orK (evE ft a env) (evE ft b env) := Eq.trans rfl rfl
theorem andK_ok {b : Bool} {s : Rs} : andK (some (.ok (kd, .bool b))) s = if b = true then s else some (.ok (⟨false, true⟩, .bool false)) := by unfold andK; cases b <;> rfl
theorem orK_ok {b : Bool} {s : Rs} : orK (some (.ok (kd, .bool b))) s = if b = true then some (.ok (⟨false, true⟩, .bool true)) else s := by unfold orK; cases b <;> rfl
theorem evE_not {a : X} : evE ft (.not a) env = bd (trE (brw env a (evE ft a env))) fun b => ok (sc (.bool (!b))) := by simp only [bd_eq]; rfl
theorem evE_ife {c a b : X} : evE ft (.ife c a b) env = bd (trE (brw env c (evE ft c env))) fun t => if t = true then evE ft a env else evE ft b env := by simp only [bd_eq]; rfl
theorem evE_bf {n : Str} {es : XL} : evE ft (.bf n es) env = bd (evBL ft es env) fun q => lift ((bfE n q).map upK) := by simp only [bd_eq]; rfl
theorem evE_isi {a : X} {ts : List Str} {al : Bool} : evE ft (.isi a ts al) env = bd (brw env a (evE ft a env)) fun x => lift ((isiE x.2 ts).map fun b => sc (.bool b)) := by simp only [bd_eq]; rfl
theorem evE_ix {a b : X} : evE ft (.ix a b) env = bd (brw env a (evE ft a env)) fun x => bd (brw env b (evE ft b env)) fun y => lift (ixE x y) := by simp only [bd_eq]; rfl
theorem evE_sl {a : X} {lo hi : XO} : evE ft (.sl a lo hi) env = bd (brw env a (evE ft a env)) fun x => bd (evO ft lo env) fun l => bd (evO ft hi env) fun h => lift ((slE x l h).map upK) := by simp only [bd_eq]; rfl
theorem evE_vals {a : X} : evE ft (.vals a) env = bd (brw env a (evE ft a env)) fun x => match x.2 with
      | .dict es => ok (⟨true, x.1⟩, .list (es.map (·.2)))
      | _ => none := by simp only [bd_eq]; rfl
theorem evE_me {m : Str} {a : X} {es : XL} : evE ft (.me m a es) env = bd (brw env a (evE ft a env)) fun x => bd (evBL ft es env) fun q => lift (meE m x q) := by simp only [bd_eq]; rfl
theorem evL_nil : evL ft .nil env = some (.ok (true, [])) := Eq.trans rfl rfl
theorem evL_cons {a : X} {es : XL} : evL ft (.cons a es) env = bd (evE ft a env) fun r => bd (evL ft es env) fun q => ok (r.1.fr && q.1, r.2 :: q.2) := by simp only [bd_eq]; rfl
theorem evBL_nil : evBL ft .nil env = some (.ok []) := Eq.trans rfl rfl
theorem evBL_cons {a : X} {es : XL} : evBL ft (.cons a es) env = bd (brw env a (evE ft a env)) fun r => bd (evBL ft es env) fun q => ok (r :: q) := by simp only [bd_eq]; rfl
theorem evO_no : evO ft .no env = some (.ok none) := Eq.trans rfl rfl
theorem evO_k : evO ft (.so (.k (.int i))) env = some (.ok (some i)) := by
  simp only [evO, evE]
  rfl
theorem evT_def {x : X} : evT ft x env = trE (brw env x (evE ft x env)) := Eq.trans rfl rfl
theorem evB_def {x : X} : evB ft x env = brw env x (evE ft x env) := Eq.trans rfl rfl
theorem evSt_set {n : Nat} {x : X} : evSt ft (.set n x) env = exO (evE ft x env) fun q => (putS env n q.1 q.2).map .nx := Eq.trans rfl rfl
theorem evSt_ife {c : X} {a b : SL} : evSt ft (.ife c a b) env = exO (evT ft c env) fun t => if t = true then evSl ft a env else evSl ft b env := Eq.trans rfl rfl
theorem evSt_ret {x : X} : evSt ft (.ret x) env = exO (retE ft x env) fun q => some (.rt env q.1 q.2) := Eq.trans rfl rfl
theorem evSt_frz {n : Nat} : evSt ft (.frz n) env = (frzE env n).map .nx := Eq.trans rfl rfl
theorem evSt_app {n : Nat} {x : X} : evSt ft (.app n x) env = if isOwL env[n]? = true then exO (evE ft x env) fun q => (appE env n q.1 q.2).map .nx else none := Eq.trans rfl rfl
theorem evSt_sti {n : Nat} {ix x : X} : evSt ft (.sti n ix x) env = if isOw env[n]? = true then exO (evE ft x env) fun q => exO (evB ft ix env) fun p => (stiE env n p.2 q.1 q.2).map .nx else none := Eq.trans rfl rfl
theorem evSt_unp {is : List Nat} {x : X} : evSt ft (.unp is x) env = exO (evB ft x env) fun q => match q.2 with
      | .tuple ds => if ds.length = is.length then (putAll env is q.1 ds).map .nx else none
      | _ => none := Eq.trans rfl rfl
theorem retE_v {n : Nat} : retE ft (.v n) env = match env[n]? with
    | some (.ow true f d) => ok (⟨true, f⟩, d)
    | s => lift (slotV s) := Eq.trans rfl rfl
theorem retE_k : retE ft (.k d) env = evE ft (.k d) env := Eq.trans rfl rfl
theorem retE_tup {es : XL} : retE ft (.tup es) env = evE ft (.tup es) env := Eq.trans rfl rfl
theorem retE_lst {es : XL} : retE ft (.lst es) env = evE ft (.lst es) env := Eq.trans rfl rfl
theorem retE_bin {o : Operator} {a b : X} : retE ft (.bin o a b) env = evE ft (.bin o a b) env := Eq.trans rfl rfl
theorem retE_cmp {o : CmpOp} {a b : X} : retE ft (.cmp o a b) env = evE ft (.cmp o a b) env := Eq.trans rfl rfl
theorem retE_ch {o o' : CmpOp} {a b c : X} : retE ft (.ch o o' a b c) env = evE ft (.ch o o' a b c) env := Eq.trans rfl rfl
theorem retE_and {a b : X} : retE ft (.and a b) env = evE ft (.and a b) env := Eq.trans rfl rfl
theorem retE_or {a b : X} : retE ft (.or a b) env = evE ft (.or a b) env := Eq.trans rfl rfl
theorem retE_not {a : X} : retE ft (.not a) env = evE ft (.not a) env := Eq.trans rfl rfl
theorem retE_ife {c a b : X} : retE ft (.ife c a b) env = evE ft (.ife c a b) env := Eq.trans rfl rfl
theorem retE_call {n : Str} {es : XL} : retE ft (.call n es) env = evE ft (.call n es) env := Eq.trans rfl rfl
theorem retE_bf {n : Str} {es : XL} : retE ft (.bf n es) env = evE ft (.bf n es) env := Eq.trans rfl rfl
theorem retE_isi {a : X} {ts : List Str} {al : Bool} : retE ft (.isi a ts al) env = evE ft (.isi a ts al) env := Eq.trans rfl rfl
theorem retE_ix {a b : X} : retE ft (.ix a b) env = evE ft (.ix a b) env := Eq.trans rfl rfl
theorem retE_sl {a : X} {lo hi : XO} : retE ft (.sl a lo hi) env = evE ft (.sl a lo hi) env := Eq.trans rfl rfl
theorem retE_lc {n : Nat} {src : XS} {c : XO} {x : X} : retE ft (.lc n src c x) env = evE ft (.lc n src c x) env := Eq.trans rfl rfl
theorem retE_ge {q : Str} {n : Nat} {ws : List Nat} {src : XS} {x : X} : retE ft (.ge q n ws src x) env = evE ft (.ge q n ws src x) env := Eq.trans rfl rfl
theorem brw_ge {q : Str} {n : Nat} {ws : List Nat} {src : XS} {x : X} : brw env (.ge q n ws src x) r = toB r := Eq.trans rfl rfl
theorem brw_dnew : brw env .dnew r = toB r := Eq.trans rfl rfl
theorem brw_me {m : Str} {a : X} {es : XL} : brw env (.me m a es) r = toB r := Eq.trans rfl rfl
theorem slotV_ow {n : Bool} : slotV (some (.ow n f d)) = none := Eq.trans rfl rfl
theorem slotOf_t {b : Bool} : slotOf ⟨true, b⟩ d = .ow true b d := Eq.trans rfl rfl
theorem slotOf_f {b : Bool} : slotOf ⟨false, b⟩ d = .sh b d := Eq.trans rfl rfl
theorem mutOld_no : mutOld (some .no) = false := Eq.trans rfl rfl
theorem mutOld_sh : mutOld (some (.sh f d)) = false := Eq.trans rfl rfl
theorem mutOld_ow : mutOld (some (.ow true f d)) = false := Eq.trans rfl rfl
theorem frzE_sh {n : Nat} (h : env[n]? = some (.sh f d)) : frzE env n = some env := by unfold frzE; rw [h]
theorem frzE_ow {n : Nat} (h : env[n]? = some (.ow true f d)) : frzE env n = some (env.set n (.sh f d)) := by unfold frzE; rw [h]
theorem cmp_le : cmpE .LtE (f, .int i) (g, .int j) = some (decide (i ≤ j)) := Eq.trans rfl rfl
theorem cmp_ge : cmpE .GtE (f, .int i) (g, .int j) = some (decide (j ≤ i)) := Eq.trans rfl rfl
theorem cmp_is : cmpE .Is (f, d) (g, .none) = some (match d with | .none => true | _ => false) := by cases d <;> rfl
theorem eqv_ss {x y : Str} : PyData.eqv (.str x) (.str y) = decide (x = y) := by unfold PyData.eqv; rfl
theorem cmp_eqs {x y : Str} (hx : shapedB (.str x) = true) (hy : shapedB (.str y) = true) : cmpE .Eq (f, .str x) (g, .str y) = some (decide (x = y)) := by
  show (if (shapedB (.str x) && shapedB (.str y)) = true then some (PyData.eqv (.str x) (.str y)) else none) = _
  rw [if_pos (by rw [hx, hy]; rfl), eqv_ss]
theorem cmp_nes {x y : Str} (hx : shapedB (.str x) = true) (hy : shapedB (.str y) = true) : cmpE .NotEq (f, .str x) (g, .str y) = some (!decide (x = y)) := by
  show (if (shapedB (.str x) && shapedB (.str y)) = true then some (!PyData.eqv (.str x) (.str y)) else none) = _
  rw [if_pos (by rw [hx, hy]; rfl), eqv_ss]
theorem bf_len_t : bfE "len" [(f, .tuple xs)] = some (sc (.int xs.length)) := Eq.trans rfl rfl
theorem bf_len_d {es : List (D × D)} : bfE "len" [(f, .dict es)] = some (sc (.int es.length)) := Eq.trans rfl rfl
theorem bf_list_l : bfE "list" [(f, .list xs)] = some (⟨true, f⟩, .list xs) := Eq.trans rfl rfl
theorem bf_list_t : bfE "list" [(f, .tuple xs)] = some (⟨true, f⟩, .list xs) := Eq.trans rfl rfl
theorem bf_list_d {es : List (D × D)} : bfE "list" [(f, .dict es)] = some (⟨true, true⟩, .list (es.map (·.1))) := Eq.trans rfl rfl
theorem bf_tuple_l : bfE "tuple" [(f, .list xs)] = some (⟨false, f⟩, .tuple xs) := Eq.trans rfl rfl
theorem bf_dict_d {es : List (D × D)} : bfE "dict" [(f, .dict es)] = some (⟨true, f⟩, .dict es) := Eq.trans rfl rfl
theorem bf_max : bfE "max" [(f, .int i), (g, .int j)] = some (sc (.int (if j > i then j else i))) := Eq.trans rfl rfl
theorem bf_int_b {b : Bool} : bfE "int" [(f, .bool b)] = some (sc (.int (if b = true then 1 else 0))) := by cases b <;> rfl
theorem bf_all : bfE "all" [(f, .list xs)] = (bools xs).map fun bs => sc (.bool (bs.all id)) := Eq.trans rfl rfl
theorem isSc_int : isSc (.int i) = true := Eq.trans rfl rfl
theorem isSc_str {x : Str} : isSc (.str x) = true := Eq.trans rfl rfl
theorem isSc_none : isSc .none = true := Eq.trans rfl rfl
theorem isSc_bool {b : Bool} : isSc (.bool b) = true := Eq.trans rfl rfl
theorem noMut_int : noMut (.int i) = true := Eq.trans rfl rfl
theorem noMut_str {x : Str} : noMut (.str x) = true := Eq.trans rfl rfl
theorem noMut_none : noMut .none = true := Eq.trans rfl rfl
theorem noMut_bool {b : Bool} : noMut (.bool b) = true := Eq.trans rfl rfl
theorem noMut_list : noMut (.list xs) = false := Eq.trans rfl rfl
theorem noMut_dict {es : List (D × D)} : noMut (.dict es) = false := Eq.trans rfl rfl
theorem toB_ok' {a : Kd × D} : toB (ok a) = some (.ok (a.1.fr, a.2)) := by rfl
theorem isi_tup {ds : List D} : isiE (.tuple ds) ["tuple"] = some true := Eq.trans rfl rfl
theorem upK_t {d : D} : upK (⟨true, f⟩, d) = (⟨true, f || noMutI d⟩, d) := Eq.trans rfl rfl
theorem upK_f {d : D} : upK (⟨false, f⟩, d) = (⟨false, f⟩, d) := Eq.trans rfl rfl
theorem noMutI_l : noMutI (.list xs) = noMutA xs := Eq.trans rfl rfl
theorem noMutI_d {es : List (D × D)} : noMutI (.dict es) = noMutK es := Eq.trans rfl rfl
theorem keyOf_int0 (n : Int) : keyOf (.int n) = some (.inl n) := Eq.trans rfl rfl
theorem bin_pow : binE .Pow (f, .int 10) (g, .int j) = if decide (0 ≤ j ∧ j ≤ 1000000) = true then some (sc (.int (10 ^ j.toNat))) else none := by
  show (if decide (0 ≤ j ∧ j ≤ 1000000 ∧ (10 : Int).natAbs < 2 ^ 64) = true then some (sc (.int (10 ^ j.toNat))) else none) = _
  have h : decide (0 ≤ j ∧ j ≤ 1000000 ∧ (10 : Int).natAbs < 2 ^ 64) = decide (0 ≤ j ∧ j ≤ 1000000) := decide_eq_decide.mpr ⟨fun h => ⟨h.1, h.2.1⟩, fun h => ⟨h.1, h.2, by decide⟩⟩
  rw [h]
theorem bin_add_t : binE .Add (f, .tuple xs) (g, .tuple ys) = if lenOk (xs.length + ys.length) = true then some (⟨false, f && g⟩, .tuple (xs ++ ys)) else none := Eq.trans rfl rfl
theorem bin_add_l : binE .Add (f, .list xs) (g, .list ys) = if lenOk (xs.length + ys.length) = true then some (⟨true, f && g⟩, .list (xs ++ ys)) else none := Eq.trans rfl rfl
theorem bin_add_s {x y : Str} : binE .Add (f, .str x) (g, .str y) = if lenOk (x.length + y.length) = true then some (sc (.str (x ++ y))) else none := Eq.trans rfl rfl
theorem sl_t {l h : Option Int} : slE (f, .tuple xs) l h = some (⟨false, f⟩, .tuple (cutD xs l h)) := Eq.trans rfl rfl
theorem sl_l {l h : Option Int} : slE (f, .list xs) l h = some (⟨true, f⟩, .list (cutD xs l h)) := Eq.trans rfl rfl
theorem isOwL_t {n : Bool} : isOwL (some (.ow n f (.list xs))) = true := Eq.trans rfl rfl
theorem isOw_t {n : Bool} : isOw (some (.ow n f d)) = true := Eq.trans rfl rfl
theorem atI2 {x y : D} {i : Int} : L2.atI [x, y] (i % 2) = some (if i % 2 = 0 then x else y) := by
  have h0 := Int.emod_nonneg i (show (2 : Int) ≠ 0 by decide)
  have h1 := Int.emod_lt_of_pos i (show (0 : Int) < 2 by decide)
  by_cases h : i % 2 = 0
  · rw [if_pos h, h]; rfl
  · rw [if_neg h, show i % 2 = 1 by omega]; rfl
theorem atI2i {x y : D} {p : Prop} [Decidable p] : L2.atI [x, y] (if p then 1 else 0) = some (if p then y else x) := by
  by_cases h : p
  · simp only [h, if_true]; rfl
  · simp only [h, if_false]; rfl
theorem ok_def {a : α} : ok a = some (.ok a) := Eq.trans rfl rfl
theorem lit_inj (x y : String) : (Str.ofString x = Str.ofString y) = (x = y) := by
  apply propext
  constructor
  · intro h
    rw [Str.ofString_eq_toList, Str.ofString_eq_toList] at h
    injection h with h
    have h2 : (x.toList.map Char.toNat) = (y.toList.map Char.toNat) := by simpa using h
    have h3 : x.toList = y.toList := List.map_inj_right (fun a b h => Char.toNat_inj.mp h) |>.mp h2
    exact String.toList_inj.mp h3
  · intro h; rw [h]
theorem shaped_lit (x : String) : shapedB (.str (Str.ofString x)) = true := by
  show (PyData.strOk (Str.ofString x) && decide (PyData.depth (.str (Str.ofString x)) ≤ 64)) = true
  rw [Bool.and_eq_true]
  refine ⟨?_, rfl⟩
  rw [Str.ofString_eq_toList]
  unfold PyData.strOk
  rw [List.all_toArray, List.all_map, List.all_eq_true]
  intro c _
  show decide (c.toNat < 1114112) = true
  rw [decide_eq_true_eq]
  have h := c.valid
  show c.val.toNat < 1114112
  rcases h with h | ⟨_, h⟩
  · have : c.val.toNat < 55296 := h
    omega
  · exact h
theorem small_lit {n : Nat} (h : n < 18446744073709551616) : smallI (no_index (OfNat.ofNat n)) = true := by
  unfold smallI
  rw [decide_eq_true_eq]
  have e : (2 : Int) ^ 64 = 18446744073709551616 := by decide
  rw [e]
  have e2 : (OfNat.ofNat n : Int) = (n : Int) := rfl
  rw [e2]
  constructor <;> omega
theorem len_lit {n : Nat} (h : n ≤ 1000000) : lenOk n = true := decide_eq_true h
end R
namespace R
open PySem PySem.Spec PyProof.Rows L2
/-! ### dicts -/
theorem keyOf_int (n : Int) : keyOf (.int n) = some (.inl n) := Eq.trans rfl rfl
theorem keyD_of {d : D} {k : Key} (h : keyOf d = some k) : d = keyD k := by
  cases d <;> simp only [keyOf, Option.some.injEq, reduceCtorEq] at h <;> subst h <;> rfl
theorem dput_mem {es : List (D × D)} {k : Key} {d : D} {e : D × D} (h : e ∈ dputE es k d) : (keyOf e.1 = some k ∧ e.2 = d) ∨ e ∈ es := by
  unfold dputE at h
  split at h
  · obtain ⟨x, hx, rfl⟩ := List.mem_map.mp h
    split
    · rename_i hk
      exact .inl ⟨hk, rfl⟩
    · exact .inr hx
  · rcases List.mem_append.mp h with z | z
    · exact .inr z
    · rw [List.mem_singleton.mp z]
      exact .inl ⟨keyOf_keyD k, rfl⟩
theorem dput_keys {es : List (D × D)} {k : Key} {d : D} : (dputE es k d).map (·.1) = if (es.any fun e => decide (keyOf e.1 = some k)) = true then es.map (·.1) else es.map (·.1) ++ [keyD k] := by
  unfold dputE
  split
  · rw [List.map_map]
    apply List.map_congr_left
    intro x _
    show (if keyOf x.1 = some k then (x.1, d) else x).1 = x.1
    split <;> rfl
  · rw [List.map_append]; rfl
theorem any_key {es : List (D × D)} {k : Key} : (es.any fun e => decide (keyOf e.1 = some k)) = true ↔ keyD k ∈ es.map (·.1) := by
  rw [List.any_eq_true]
  constructor
  · rintro ⟨e, h1, h2⟩
    exact List.mem_map.mpr ⟨e, h1, keyD_of (of_decide_eq_true h2)⟩
  · intro h
    obtain ⟨e, h1, h2⟩ := List.mem_map.mp h
    exact ⟨e, h1, decide_eq_true (by rw [h2]; exact keyOf_keyD k)⟩
theorem dput_nodup {es : List (D × D)} {k : Key} {d : D} (h : (es.map (·.1)).Nodup) : ((dputE es k d).map (·.1)).Nodup := by
  rw [dput_keys]
  split
  · exact h
  · rename_i hn
    rw [List.nodup_append]
    refine ⟨h, by simp, fun a ha b hb e => ?_⟩
    rw [List.mem_singleton.mp hb] at e
    rw [e] at ha
    exact hn (any_key.mpr ha)
theorem dput_len {es : List (D × D)} {k : Key} {d : D} : (dputE es k d).length ≤ es.length + 1 := by
  unfold dputE
  split
  · rw [List.length_map]; omega
  · rw [List.length_append]; exact Nat.le_refl _
theorem dput_old {es : List (D × D)} {k : Key} {d x : D} (h : x ∈ es.map (·.1)) : x ∈ (dputE es k d).map (·.1) := by
  rw [dput_keys]
  split
  · exact h
  · exact List.mem_append_left _ h
theorem dput_new {es : List (D × D)} {k : Key} {d : D} : keyD k ∈ (dputE es k d).map (·.1) := by
  rw [dput_keys]
  split
  · rename_i h; exact any_key.mp h
  · exact List.mem_append_right _ (List.mem_singleton.mpr rfl)
theorem dget_mem {es : List (D × D)} {k : Key} {d : D} (h : dgetE es k = some d) : (keyD k, d) ∈ es := by
  unfold dgetE at h
  rw [Option.map_eq_some_iff] at h
  obtain ⟨e, h1, h2⟩ := h
  have h3 := List.find?_some h1
  have h4 := List.mem_of_find?_eq_some h1
  have h5 := keyD_of (of_decide_eq_true h3)
  rw [← h5, ← h2]
  exact h4
theorem dget_some {es : List (D × D)} {k : Key} (h : keyD k ∈ es.map (·.1)) : ∃ d, dgetE es k = some d := by
  obtain ⟨e, h1, h2⟩ := List.mem_map.mp h
  cases hf : es.find? fun e => decide (keyOf e.1 = some k) with
  | none =>
    have := List.find?_eq_none.mp hf e h1
    rw [h2, keyOf_keyD] at this
    simp at this
  | some x => exact ⟨x.2, by unfold dgetE; rw [hf]; rfl⟩
theorem dget_iff {es : List (D × D)} {k : Key} (nd : (es.map (·.1)).Nodup) {d : D} (h : (keyD k, d) ∈ es) : dgetE es k = some d := by
  obtain ⟨d', e⟩ := dget_some (k := k) (List.mem_map.mpr ⟨_, h, rfl⟩)
  have h2 := dget_mem e
  rw [e]
  congr 1
  induction es with
  | nil => cases h
  | cons x xs ih =>
    rw [List.map_cons, List.nodup_cons] at nd
    rcases List.mem_cons.mp h with z | z
    · rcases List.mem_cons.mp h2 with y | y
      · exact (Prod.mk.inj (y.trans z.symm)).2
      · exact absurd (List.mem_map.mpr ⟨_, y, by rw [← z]⟩) nd.1
    · rcases List.mem_cons.mp h2 with y | y
      · exact absurd (List.mem_map.mpr ⟨_, z, by rw [← y]⟩) nd.1
      · refine ih nd.2 z ?_ y
        have hne : ¬ keyOf x.1 = some k := fun q => nd.1 (by rw [keyD_of q]; exact List.mem_map.mpr ⟨_, z, rfl⟩)
        unfold dgetE at e ⊢
        rw [List.find?_cons_of_neg (by simpa using hne)] at e
        exact e
/-! ### loops -/
theorem loop_inv {bind : Env1 → D → Option Env1} {body : Env1 → Option Oc} (I : Nat → Env1 → Prop) : ∀ (ds : List D) (j : Nat) (env : Env1), I j env → (∀ (i : Nat) (e : Env1) (d : D), ds[i]? = some d → I (j + i) e → ∃ e1 e2, bind e d = some e1 ∧ body e1 = some (.nx e2) ∧ I (j + i + 1) e2) →
    ∃ e', loopS bind body ds env = some (.nx e') ∧ I (j + ds.length) e'
  | [], j, env, h0, _ => ⟨env, rfl, h0⟩
  | d :: ds, j, env, h0, hs => by
    obtain ⟨e1, e2, b1, b2, h1⟩ := hs 0 env d rfl h0
    obtain ⟨e', l, h2⟩ := loop_inv I ds (j + 1) e2 h1 fun i e x hx hI => by
      obtain ⟨y1, y2, a, b, c⟩ := hs (i + 1) e x (by simpa using hx) (by rw [show j + (i + 1) = j + 1 + i by omega]; exact hI)
      exact ⟨y1, y2, a, b, by rw [show j + 1 + i + 1 = j + (i + 1) + 1 by omega]; exact c⟩
    refine ⟨e', ?_, by rw [List.length_cons, show j + (ds.length + 1) = j + 1 + ds.length by omega]; exact h2⟩
    simp only [loopS, b1, b2]
    exact l
theorem atI_mod {xs : List D} {i : Int} (h : xs ≠ []) : ∃ x, x ∈ xs ∧ L2.atI xs (i % (xs.length : Int)) = some x := by
  have h0 : 0 < (xs.length : Int) := by
    cases xs with
    | nil => exact absurd rfl h
    | cons _ _ => simp only [List.length_cons]; omega
  have h1 := Int.emod_nonneg i (show (xs.length : Int) ≠ 0 by omega)
  have h2 := Int.emod_lt_of_pos i h0
  obtain ⟨j, hj⟩ : ∃ j : Nat, i % (xs.length : Int) = (j : Int) := ⟨(i % (xs.length : Int)).toNat, by omega⟩
  rw [hj] at h2 ⊢
  have hlt : j < xs.length := by omega
  exact ⟨xs[j], List.getElem_mem hlt, L2.atI_nat (List.getElem?_eq_getElem hlt)⟩
theorem atI_of {xs : List D} {i : Int} (h0 : 0 ≤ i) (h1 : i < xs.length) : ∃ x, xs[i.toNat]? = some x ∧ L2.atI xs i = some x := by
  obtain ⟨j, rfl⟩ := Int.eq_ofNat_of_zero_le h0
  have hlt : j < xs.length := by omega
  exact ⟨xs[j], by simp [hlt], L2.atI_nat (List.getElem?_eq_getElem hlt)⟩
/-! ### what a body ends with -/
def Ends (Q : D → Prop) (o : Option Oc) : Prop := ∃ env k d, o = some (.rt env k d) ∧ Q d
theorem Ends.mk {Q : D → Prop} {env : Env1} {k : Kd} {d : D} (h : Q d) : Ends Q (some (.rt env k d)) := ⟨env, k, d, rfl, h⟩
theorem Ends.fin {Q : D → Prop} {o : Option Oc} {n : Nat} {F : List D → Ex (D × List D)} (h : Ends Q o) : ∃ d, Q d ∧ endD ⟨n, [], ⟨false, false⟩, F⟩ o = some (.ok (d, [])) := by
  obtain ⟨env, k, d, rfl, q⟩ := h
  exact ⟨d, q, rfl⟩
theorem Ends.eq {x : D} {o : Option Oc} {n : Nat} {F : List D → Ex (D × List D)} (h : Ends (fun d => d = x) o) : endD ⟨n, [], ⟨false, false⟩, F⟩ o = some (.ok (x, [])) := by
  obtain ⟨env, k, d, rfl, q⟩ := h
  subst q; rfl
/-- a piece ends by going on, with such slots -/
def Nxt (J : Env1 → Prop) (o : Option Oc) : Prop := ∃ e, o = some (.nx e) ∧ J e
theorem Nxt.mk {J : Env1 → Prop} {e : Env1} (h : J e) : Nxt J (some (.nx e)) := ⟨e, rfl, h⟩
theorem Nxt.nil {J : Env1 → Prop} {ft : FT} {e : Env1} (h : J e) : Nxt J (evSl ft .nil e) := ⟨e, rfl, h⟩
theorem loop_cps {P : Option Oc → Prop} {K : Env1 → Option Oc} {bind : Env1 → D → Option Env1} {body : Env1 → Option Oc} {ds : List D} {env : Env1} (I : Nat → Env1 → Prop) (h0 : I 0 env)
    (hs : ∀ (i : Nat) (e : Env1) (d : D), ds[i]? = some d → I i e → ∃ e1, bind e d = some e1 ∧ Nxt (I (i + 1)) (body e1)) (hk : ∀ e, I ds.length e → P (K e)) : P (seqO (loopS bind body ds env) K) := by
  obtain ⟨e', l, h⟩ := loop_inv (bind := bind) (body := body) I ds 0 env h0 fun i e d hd hI => by
    rw [Nat.zero_add] at hI ⊢
    obtain ⟨e1, b, e2, b2, h2⟩ := hs i e d hd hI
    exact ⟨e1, e2, b, b2, h2⟩
  rw [l, seqO_nx]
  rw [Nat.zero_add] at h
  exact hk e' h
theorem join_cps {P : Option Oc → Prop} {K : Env1 → Option Oc} {o : Option Oc} (J : Env1 → Prop) (h : Nxt J o) (hk : ∀ e, J e → P (K e)) : P (seqO o K) := by
  obtain ⟨e, rfl, j⟩ := h
  exact hk e j
theorem evSt_for1 {ft : FT} {n : Nat} {src : XS} {b : SL} {env : Env1} : evSt ft (.for1 n src b) env = exO (evSv ft src env) fun q => loopS (fun e d => putS e n ⟨false, q.1⟩ d) (fun e => evSl ft b e) q.2 env := Eq.trans rfl rfl
theorem evSt_forT {ft : FT} {is : List Nat} {src : XS} {b : SL} {env : Env1} : evSt ft (.forT is src b) env = exO (evSv ft src env) fun q => loopS (fun e d => match d with
      | .tuple ds => if ds.length = is.length then putAll e is q.1 ds else none
      | _ => none) (fun e => evSl ft b e) q.2 env := Eq.trans rfl rfl
theorem evSv_r {ft : FT} {a : X} {env : Env1} : evSv ft (.r a) env = bd (evE ft a env) fun r => bd (lift (rangeE r.2)) fun l => ok (true, l) := by simp only [bd_eq]; rfl
theorem evSv_l {ft : FT} {a : X} {env : Env1} : evSv ft (.l a) env = bd (evE ft a env) fun q => bd (lift (itemsE q.2)) fun l => ok (q.1.fr, l) := by simp only [bd_eq]; rfl
theorem items_l {xs : List D} : itemsE (.list xs) = some xs := Eq.trans rfl rfl
theorem items_t {xs : List D} : itemsE (.tuple xs) = some xs := Eq.trans rfl rfl
theorem evS_l {ft : FT} {a : X} {env : Env1} : evS ft (.l a) env = bd (brw env a (evE ft a env)) fun q => bd (lift (itemsE q.2)) fun l => ok (q.1, l) := by simp only [bd_eq]; rfl
theorem evS_r {ft : FT} {a : X} {env : Env1} : evS ft (.r a) env = bd (evE ft a env) fun r => bd (lift (rangeE r.2)) fun l => ok (true, l) := by simp only [bd_eq]; rfl
theorem rangeE_ok {m : Int} (h0 : 0 ≤ m) (h1 : m ≤ 1000) : rangeE (.int m) = some ((List.range m.toNat).map fun j => .int (j : Nat)) := by
  show (if decide (-(2 ^ 62) ≤ m ∧ m < 2 ^ 62) = true then some ((List.range m.toNat).map fun j => PyData.int (j : Nat)) else none) = _
  rw [if_pos]
  rw [decide_eq_true_eq]
  constructor
  · have : (-(2 ^ 62) : Int) < 0 := by decide
    omega
  · have : (1000 : Int) < 2 ^ 62 := by decide
    omega
theorem range_at {m i : Nat} {d : D} (h : ((List.range m).map fun j => PyData.int (j : Nat))[i]? = some d) : i < m ∧ d = .int (i : Nat) := by
  rw [List.getElem?_map] at h
  by_cases hi : i < m
  · rw [List.getElem?_range hi] at h
    cases h
    exact ⟨hi, rfl⟩
  · rw [List.getElem?_eq_none (by rw [List.length_range]; omega)] at h
    cases h
theorem range_mem {m : Nat} {d : D} (h : d ∈ (List.range m).map fun j => PyData.int (j : Nat)) : ∃ i, i < m ∧ d = .int (i : Nat) := by
  obtain ⟨j, hj, rfl⟩ := List.mem_map.mp h
  exact ⟨j, List.mem_range.mp hj, rfl⟩
theorem range_len {m : Nat} : ((List.range m).map fun j => PyData.int (j : Nat)).length = m := by rw [List.length_map, List.length_range]
theorem sti_d {env : Env1} {n : Nat} {nw f : Bool} {es : List (D × D)} {i : Int} {k : Kd} {d : D} (h : env[n]? = some (.ow nw f (.dict es))) (hl : lenOk es.length = true) : stiE env n (.int i) k d = some (env.set n (.ow nw (f && k.fr) (.dict (dputE es (.inl i) d)))) := by
  unfold stiE; rw [h]
  show (if lenOk es.length then _ else _) = _
  rw [if_pos hl]
theorem lenOk_of {n : Nat} (h : n ≤ 1000) : lenOk n = true := by
  unfold lenOk
  rw [decide_eq_true_eq]; omega
/-- a comprehension whose elements are all known -/
theorem lcGo_all {c : D → Ex Bool} {f : D → Rs} {Pr : D → Prop} (hc : ∀ d, c d = some (.ok true)) : ∀ {ds : List D}, (∀ d, d ∈ ds → ∃ kd r, f d = some (.ok (kd, r)) ∧ Pr r) → ∃ b rs, lcGo c f ds = some (.ok (b, rs)) ∧ rs.length = ds.length ∧ ∀ r, r ∈ rs → Pr r
  | [], _ => ⟨true, [], rfl, rfl, fun r h => by simp at h⟩
  | d :: ds, h => by
    obtain ⟨kd, r, e, p⟩ := h d List.mem_cons_self
    obtain ⟨b, rs, e2, l, q⟩ := lcGo_all hc (ds := ds) fun x hx => h x (List.mem_cons_of_mem _ hx)
    refine ⟨kd.fr && b, r :: rs, ?_, by simp [l], fun x hx => ?_⟩
    · simp only [lcGo]
      rw [hc, bnd_ok, if_pos rfl, e, bnd_ok, e2, bnd_ok]
    · rcases List.mem_cons.mp hx with z | z
      · rw [z]; exact p
      · exact q x z
theorem lc_all {ft : FT} {i : Nat} {src : XS} {e : X} {env : Env1} {f : Bool} {ds : List D} {Pr : D → Prop} (hs : evS ft src env = some (.ok (f, ds))) (hi : i < env.length) (hl : lenOk ds.length = true)
    (h : ∀ d, d ∈ ds → ∃ kd r, evE ft e (env.set i (.sh f d)) = some (.ok (kd, r)) ∧ Pr r) : ∃ b rs, evE ft (.lc i src .no e) env = some (.ok (⟨true, b⟩, .list rs)) ∧ rs.length = ds.length ∧ ∀ r, r ∈ rs → Pr r := by
  obtain ⟨b, rs, e1, l, q⟩ := lcGo_all (c := fun d => evC ft .no (env.set i (.sh f d))) (f := fun d => evE ft e (env.set i (.sh f d))) (fun _ => rfl) h
  refine ⟨b, rs, ?_, l, q⟩
  simp only [evE]
  rw [hs, bnd_ok]
  simp only
  rw [if_pos ⟨hi, hl⟩, e1]
  show bnd (some (.ok (b, rs))) _ = _
  rw [bnd_ok]
theorem cut_all {xs : List D} : cutD xs none none = xs := by
  unfold cutD
  rw [HT.sIx_none, HT.sIx_none, List.drop_zero, Nat.sub_zero, List.take_length]
theorem cut_to {xs : List D} {m : Nat} : cutD xs none (some (m : Int)) = xs.take m := by
  unfold cutD
  rw [HT.sIx_none, HT.sIx_nat, List.drop_zero, Nat.sub_zero, List.take_eq_take_iff]
  omega
theorem cut_from {xs : List D} {m : Nat} : cutD xs (some (m : Int)) none = xs.drop m := by
  unfold cutD
  rw [HT.sIx_none, HT.sIx_nat, List.take_of_length_le (by rw [List.length_drop]; exact Nat.le_refl _)]
  by_cases h : m ≤ xs.length
  · rw [Nat.min_eq_left h]
  · rw [Nat.min_eq_right (by omega), List.drop_length, List.drop_of_length_le (by omega)]
theorem list_new {ft : FT} {env : Env1} {e : X} {es : XL} {kd : Kd} {d : D} {b : Bool} {ds : List D} (h1 : evE ft e env = some (.ok (kd, d))) (h2 : evL ft es env = some (.ok (b, ds))) : evL ft (.cons e es) env = some (.ok (kd.fr && b, d :: ds)) := by
  rw [evL_cons, h1, bd_ok, h2, bd_ok]
end R
namespace R
open PySem PySem.Spec PyProof.Rows L2
theorem isi_none_tuple_list  : isiE (.none) ["tuple", "list"] = some false := Eq.trans rfl rfl
theorem isi_none_tuple  : isiE (.none) ["tuple"] = some false := Eq.trans rfl rfl
theorem isi_none_list  : isiE (.none) ["list"] = some false := Eq.trans rfl rfl
theorem isi_none_str  : isiE (.none) ["str"] = some false := Eq.trans rfl rfl
theorem isi_none_int  : isiE (.none) ["int"] = some false := Eq.trans rfl rfl
theorem isi_none_bool  : isiE (.none) ["bool"] = some false := Eq.trans rfl rfl
theorem isi_none_dict  : isiE (.none) ["dict"] = some false := Eq.trans rfl rfl
theorem isi_bool_tuple_list {b : Bool} : isiE (.bool b) ["tuple", "list"] = some false := Eq.trans rfl rfl
theorem isi_bool_tuple {b : Bool} : isiE (.bool b) ["tuple"] = some false := Eq.trans rfl rfl
theorem isi_bool_list {b : Bool} : isiE (.bool b) ["list"] = some false := Eq.trans rfl rfl
theorem isi_bool_str {b : Bool} : isiE (.bool b) ["str"] = some false := Eq.trans rfl rfl
theorem isi_bool_int {b : Bool} : isiE (.bool b) ["int"] = some true := Eq.trans rfl rfl
theorem isi_bool_bool {b : Bool} : isiE (.bool b) ["bool"] = some true := Eq.trans rfl rfl
theorem isi_bool_dict {b : Bool} : isiE (.bool b) ["dict"] = some false := Eq.trans rfl rfl
theorem isi_int_tuple_list {i : Int} : isiE (.int i) ["tuple", "list"] = some false := Eq.trans rfl rfl
theorem isi_int_tuple {i : Int} : isiE (.int i) ["tuple"] = some false := Eq.trans rfl rfl
theorem isi_int_list {i : Int} : isiE (.int i) ["list"] = some false := Eq.trans rfl rfl
theorem isi_int_str {i : Int} : isiE (.int i) ["str"] = some false := Eq.trans rfl rfl
theorem isi_int_int {i : Int} : isiE (.int i) ["int"] = some true := Eq.trans rfl rfl
theorem isi_int_bool {i : Int} : isiE (.int i) ["bool"] = some false := Eq.trans rfl rfl
theorem isi_int_dict {i : Int} : isiE (.int i) ["dict"] = some false := Eq.trans rfl rfl
theorem isi_str_tuple_list {x : Str} : isiE (.str x) ["tuple", "list"] = some false := Eq.trans rfl rfl
theorem isi_str_tuple {x : Str} : isiE (.str x) ["tuple"] = some false := Eq.trans rfl rfl
theorem isi_str_list {x : Str} : isiE (.str x) ["list"] = some false := Eq.trans rfl rfl
theorem isi_str_str {x : Str} : isiE (.str x) ["str"] = some true := Eq.trans rfl rfl
theorem isi_str_int {x : Str} : isiE (.str x) ["int"] = some false := Eq.trans rfl rfl
theorem isi_str_bool {x : Str} : isiE (.str x) ["bool"] = some false := Eq.trans rfl rfl
theorem isi_str_dict {x : Str} : isiE (.str x) ["dict"] = some false := Eq.trans rfl rfl
theorem isi_list_tuple_list {xs : List D} : isiE (.list xs) ["tuple", "list"] = some true := Eq.trans rfl rfl
theorem isi_list_tuple {xs : List D} : isiE (.list xs) ["tuple"] = some false := Eq.trans rfl rfl
theorem isi_list_list {xs : List D} : isiE (.list xs) ["list"] = some true := Eq.trans rfl rfl
theorem isi_list_str {xs : List D} : isiE (.list xs) ["str"] = some false := Eq.trans rfl rfl
theorem isi_list_int {xs : List D} : isiE (.list xs) ["int"] = some false := Eq.trans rfl rfl
theorem isi_list_bool {xs : List D} : isiE (.list xs) ["bool"] = some false := Eq.trans rfl rfl
theorem isi_list_dict {xs : List D} : isiE (.list xs) ["dict"] = some false := Eq.trans rfl rfl
theorem isi_tuple_tuple_list {xs : List D} : isiE (.tuple xs) ["tuple", "list"] = some true := Eq.trans rfl rfl
theorem isi_tuple_tuple {xs : List D} : isiE (.tuple xs) ["tuple"] = some true := Eq.trans rfl rfl
theorem isi_tuple_list {xs : List D} : isiE (.tuple xs) ["list"] = some false := Eq.trans rfl rfl
theorem isi_tuple_str {xs : List D} : isiE (.tuple xs) ["str"] = some false := Eq.trans rfl rfl
theorem isi_tuple_int {xs : List D} : isiE (.tuple xs) ["int"] = some false := Eq.trans rfl rfl
theorem isi_tuple_bool {xs : List D} : isiE (.tuple xs) ["bool"] = some false := Eq.trans rfl rfl
theorem isi_tuple_dict {xs : List D} : isiE (.tuple xs) ["dict"] = some false := Eq.trans rfl rfl
theorem isi_dict_tuple_list {es : List (D × D)} : isiE (.dict es) ["tuple", "list"] = some false := Eq.trans rfl rfl
theorem isi_dict_tuple {es : List (D × D)} : isiE (.dict es) ["tuple"] = some false := Eq.trans rfl rfl
theorem isi_dict_list {es : List (D × D)} : isiE (.dict es) ["list"] = some false := Eq.trans rfl rfl
theorem isi_dict_str {es : List (D × D)} : isiE (.dict es) ["str"] = some false := Eq.trans rfl rfl
theorem isi_dict_int {es : List (D × D)} : isiE (.dict es) ["int"] = some false := Eq.trans rfl rfl
theorem isi_dict_bool {es : List (D × D)} : isiE (.dict es) ["bool"] = some false := Eq.trans rfl rfl
theorem isi_dict_dict {es : List (D × D)} : isiE (.dict es) ["dict"] = some true := Eq.trans rfl rfl
theorem cmp_nei {f g : Bool} {i j : Int} : cmpE .NotEq (f, .int i) (g, .int j) = some (!decide (i = j)) := by
  have h := cmp_eqi (f := f) (g := g) (i := i) (j := j)
  have h2 : (shapedB (.int i) && shapedB (.int j)) = true := by
    cases e : (shapedB (.int i) && shapedB (.int j)) with
    | true => rfl
    | false =>
      have : cmpE .Eq (f, .int i) (g, .int j) = if (shapedB (.int i) && shapedB (.int j)) = true then some (PyData.eqv (.int i) (.int j)) else none := rfl
      rw [this, e] at h; cases h
  have h3 : cmpE .Eq (f, .int i) (g, .int j) = some (PyData.eqv (.int i) (.int j)) := by
    show (if (shapedB (.int i) && shapedB (.int j)) = true then some (PyData.eqv (.int i) (.int j)) else none) = _
    rw [if_pos h2]
  rw [h3] at h
  show (if (shapedB (.int i) && shapedB (.int j)) = true then some (!PyData.eqv (.int i) (.int j)) else none) = _
  rw [if_pos h2, Option.some.inj h]
theorem cmp_neb {f g a b : Bool} : cmpE .NotEq (f, .bool a) (g, .bool b) = some (!decide (a = b)) := by cases a <;> cases b <;> rfl
theorem cmp_eqb {f g a b : Bool} : cmpE .Eq (f, .bool a) (g, .bool b) = some (decide (a = b)) := by cases a <;> cases b <;> rfl
theorem cmp_isb {f g a b : Bool} : cmpE .Is (f, .bool a) (g, .bool b) = some (decide (a = b)) := by cases a <;> cases b <;> rfl
theorem cmp_isnb {f g a b : Bool} : cmpE .IsNot (f, .bool a) (g, .bool b) = some (!decide (a = b)) := by cases a <;> cases b <;> rfl
theorem cmp_in_d {f g : Bool} {n : Int} {es : List (D × D)} : cmpE .In (f, .int n) (g, .dict es) = some (dgetE es (.inl n)).isSome := Eq.trans rfl rfl
theorem cmp_nin_d {f g : Bool} {n : Int} {es : List (D × D)} : cmpE .NotIn (f, .int n) (g, .dict es) = some (!(dgetE es (.inl n)).isSome) := Eq.trans rfl rfl
theorem ix_d {f g : Bool} {n : Int} {es : List (D × D)} : ixE (f, .dict es) (g, .int n) = (dgetE es (.inl n)).map fun d => (⟨false, f⟩, d) := Eq.trans rfl rfl
theorem bools_all : ∀ {rs : List D}, (∀ r, r ∈ rs → r = .bool true) → bools rs = some (List.replicate rs.length true)
  | [], _ => rfl
  | r :: rs, h => by
    rw [h r List.mem_cons_self]
    show (bools rs).map (true :: ·) = _
    rw [bools_all fun x hx => h x (List.mem_cons_of_mem _ hx)]
    rfl
theorem all_rep {n : Nat} : (List.replicate n true).all id = true := by
  rw [List.all_eq_true]
  intro x hx
  rw [(List.mem_replicate.mp hx).2]; rfl
theorem bf_all_l {f : Bool} {xs : List D} : bfE "all" [(f, .list xs)] = (bools xs).map fun bs => sc (.bool (bs.all id)) := Eq.trans rfl rfl
theorem putAll_nil {env : Env1} {f : Bool} : putAll env [] f [] = some env := Eq.trans rfl rfl
theorem putAll_cons {env : Env1} {i : Nat} {is : List Nat} {f : Bool} {d : D} {ds : List D} : putAll env (i :: is) f (d :: ds) = (putS env i ⟨false, f⟩ d).bind fun e => putAll e is f ds := Eq.trans rfl rfl
theorem ixN_nat {n j : Nat} (h : j < n) : ixN n (j : Int) = some j := by
  unfold ixN
  simp
  omega
theorem Ends.rt {Q : D → Prop} {o : Option Oc} {K : Env1 → Option Oc} (h : Ends Q o) : Ends Q (seqO o K) := by
  obtain ⟨e, k, d, rfl, q⟩ := h
  exact ⟨e, k, d, rfl, q⟩
/-- a loop that may end with an answer -/
theorem loop_ret {Q : D → Prop} {K : Env1 → Option Oc} {bind : Env1 → D → Option Env1} {body : Env1 → Option Oc} (I : Env1 → Prop) (p : D → Bool) : ∀ {ds : List D} {env : Env1}, I env →
    (∀ (e : Env1) (d : D), d ∈ ds → I e → ∃ e1, bind e d = some e1 ∧ (p d = true → Nxt I (body e1)) ∧ (p d = false → Ends Q (body e1))) → (ds.all p = true → ∀ e, I e → Ends Q (K e)) → Ends Q (seqO (loopS bind body ds env) K)
  | [], env, h0, _, hk => hk rfl env h0
  | d :: ds, env, h0, hs, hk => by
    obtain ⟨e1, b, h1, h2⟩ := hs env d List.mem_cons_self h0
    cases hp : p d with
    | true =>
      obtain ⟨e2, b2, h3⟩ := h1 hp
      have := loop_ret (K := K) I p (ds := ds) (env := e2) h3 (fun e x hx hI => hs e x (List.mem_cons_of_mem _ hx) hI) fun ha => hk (by rw [List.all_cons, hp, ha]; rfl)
      simp only [loopS, b, b2]
      exact this
    | false =>
      obtain ⟨e2, k, x, b2, q⟩ := h2 hp
      simp only [loopS, b, b2]
      exact ⟨e2, k, x, rfl, q⟩
theorem bools_map {p : D → Bool} : ∀ {ds : List D}, bools (ds.map fun d => .bool (p d)) = some (ds.map p)
  | [] => rfl
  | d :: ds => by
    show (bools (ds.map fun d => PyData.bool (p d))).map (p d :: ·) = _
    rw [bools_map]; rfl
theorem geGo_map {g : D → Rs} {p : D → Bool} : ∀ {ds : List D}, (∀ d, d ∈ ds → ∃ kd, g d = some (.ok (kd, .bool (p d)))) → ∃ rs, geGo g ds = some (.ok rs) ∧ rs.map (·.2) = ds.map fun d => .bool (p d)
  | [], _ => ⟨[], rfl, rfl⟩
  | d :: ds, h => by
    obtain ⟨kd, e⟩ := h d List.mem_cons_self
    obtain ⟨rs, e2, e3⟩ := geGo_map (ds := ds) fun x hx => h x (List.mem_cons_of_mem _ hx)
    refine ⟨(kd, .bool (p d)) :: rs, ?_, by rw [List.map_cons, List.map_cons, e3]⟩
    simp only [geGo]
    rw [e, bnd_ok, e2, bnd_ok]
theorem all_id {p : D → Bool} {ds : List D} : (ds.map p).all id = ds.all p := by
  rw [List.all_map]; rfl
theorem ge_all {ft : FT} {i : Nat} {ws : List Nat} {src : XS} {e : X} {env : Env1} {f : Bool} {ds : List D} (p : D → Bool) (hge : ft.ge = true) (hs : evS ft src env = some (.ok (f, ds))) (hi : i < env.length)
    (h : ∀ d, d ∈ ds → ∃ kd, evE ft e ((hideE env ws).set i (.sh f d)) = some (.ok (kd, .bool (p d)))) : evE ft (.ge "all" i ws src e) env = some (.ok (⟨false, true⟩, .bool (ds.all p))) := by
  obtain ⟨rs, e1, e2⟩ := geGo_map h
  simp only [evE]
  rw [if_pos hge, hs, bnd_ok]
  simp only
  rw [if_pos hi, e1]
  show bnd (some (.ok rs)) _ = _
  rw [bnd_ok, e2]
  unfold geE
  rw [if_pos rfl, bools_map]
  show some (Except.ok (sc (.bool ((ds.map p).all id)))) = _
  rw [all_id]; rfl
/-- a comprehension that keeps some -/
theorem lcGo_filter {c : D → Ex Bool} {g : D → Rs} {p : D → Bool} : ∀ {ds : List D}, (∀ d, d ∈ ds → c d = some (.ok (p d)) ∧ ∃ kd, g d = some (.ok (kd, d))) → ∃ b, lcGo c g ds = some (.ok (b, ds.filter p))
  | [], _ => ⟨true, rfl⟩
  | d :: ds, h => by
    obtain ⟨h1, kd, h2⟩ := h d List.mem_cons_self
    obtain ⟨b, e⟩ := lcGo_filter (ds := ds) fun x hx => h x (List.mem_cons_of_mem _ hx)
    simp only [lcGo]
    rw [h1, bnd_ok, e]
    cases hp : p d with
    | true =>
      rw [if_pos rfl, h2, bnd_ok, bnd_ok, List.filter_cons_of_pos hp]
      exact ⟨_, rfl⟩
    | false =>
      rw [if_neg (by simp), List.filter_cons_of_neg (by simp [hp])]
      exact ⟨_, rfl⟩
theorem lc_filter {ft : FT} {i : Nat} {src : XS} {c : XO} {e : X} {env : Env1} {f : Bool} {ds : List D} (p : D → Bool) (hs : evS ft src env = some (.ok (f, ds))) (hi : i < env.length) (hl : lenOk ds.length = true)
    (h : ∀ d, d ∈ ds → evC ft c (env.set i (.sh f d)) = some (.ok (p d)) ∧ ∃ kd, evE ft e (env.set i (.sh f d)) = some (.ok (kd, d))) : ∃ b, evE ft (.lc i src c e) env = some (.ok (⟨true, b⟩, .list (ds.filter p))) := by
  obtain ⟨b, e1⟩ := lcGo_filter h
  refine ⟨b, ?_⟩
  simp only [evE]
  rw [hs, bnd_ok]
  simp only
  rw [if_pos ⟨hi, hl⟩, e1]
  show bnd (some (.ok (b, ds.filter p))) _ = _
  rw [bnd_ok]
theorem evC_so {ft : FT} {x : X} {env : Env1} : evC ft (.so x) env = trE (brw env x (evE ft x env)) := by simp only [evC]
theorem eqv_nil {xs : List D} : PyData.eqv (.list xs) (.list []) = xs.isEmpty := by cases xs <;> rfl
theorem cmp_nn {f g : Bool} {xs : List D} (h : shapedB (.list xs) = true) : cmpE .NotEq (f, .list xs) (g, .list []) = some (!xs.isEmpty) := by
  show (if (shapedB (.list xs) && shapedB (.list [])) = true then some (!PyData.eqv (.list xs) (.list [])) else none) = _
  rw [h, if_pos (show (true && shapedB (.list [])) = true from rfl), eqv_nil]
theorem cmp_en {f g : Bool} {xs : List D} (h : shapedB (.list xs) = true) : cmpE .Eq (f, .list xs) (g, .list []) = some xs.isEmpty := by
  show (if (shapedB (.list xs) && shapedB (.list [])) = true then some (PyData.eqv (.list xs) (.list [])) else none) = _
  rw [h, if_pos (show (true && shapedB (.list [])) = true from rfl), eqv_nil]
theorem intsD_map : ∀ {ks : List Int}, intsD (ks.map .int) = some ks
  | [] => rfl
  | k :: ks => by
    show (intsD (ks.map .int)).map (k :: ·) = _
    rw [intsD_map]; rfl
theorem bf_sorted {f : Bool} {ks : List Int} : bfE "sorted" [(f, .list (ks.map .int))] = some (⟨true, true⟩, .list ((sortI ks).map .int)) := by
  show (intsD (ks.map PyData.int)).map _ = _
  rw [intsD_map]; rfl
theorem sort_mem {ks : List Int} {k : Int} (h : k ∈ sortI ks) : k ∈ ks := (List.mergeSort_perm ks _).mem_iff.mp h
theorem sort_len {ks : List Int} : (sortI ks).length = ks.length := List.length_mergeSort ks
theorem evSt_tl {ft : FT} {i : Nat} {e : X} {t : T} {env : Env1} : evSt ft (.tl i e t) env = exO (evE ft e (loE env)) fun q => if q.1.fr = true ∧ oldFree env = true ∧ i < env.length then exO (evTl ft i t ((loE env).set i .no) q.2) fun d => some (.rt (noE env) ⟨false, true⟩ d) else none := by simp only [evSt]
theorem evTl_set {ft : FT} {i j : Nat} {e : X} {t : T} {env : Env1} {d : D} : evTl ft i (.set j e t) env d = bd (evE ft e env) fun q => if j ≠ i ∧ j < env.length then evTl ft i t (env.set j (.sh false q.2)) d else none := by simp only [bd_eq]; rfl
theorem evTl_tst {ft : FT} {i : Nat} {c r : X} {t : T} {env : Env1} {d : D} : evTl ft i (.tst c r t) env d = bd (evT ft c (env.set i (.sh false d))) fun b => if b = true then bd (evE ft r (env.set i (.sh false d))) fun q => if noMut q.2 = true then ok q.2 else none else evTl ft i t env d := by simp only [bd_eq]; rfl
theorem evTl_wrk {ft : FT} {i : Nat} {dp : Bool} {kx e : X} {env : Env1} {d : D} : evTl ft i (.wrk dp kx e) env d = if wrkD dp d = true then bd (evE ft e env) fun q => if noMut q.2 = true then ok q.2 else none else none := by simp only [bd_eq]; rfl
theorem loE_cons {s : Slot} {env : Env1} : loE (s :: env) = loS s :: loE env := Eq.trans rfl rfl
theorem loE_nil : loE [] = [] := Eq.trans rfl rfl
theorem loS_no : loS .no = .no := Eq.trans rfl rfl
theorem loS_sh {f : Bool} {d : D} : loS (.sh f d) = .sh false d := Eq.trans rfl rfl
theorem loS_ow {n f : Bool} {d : D} : loS (.ow n f d) = .sh false d := Eq.trans rfl rfl
theorem oldFree_nil : oldFree [] = true := Eq.trans rfl rfl
theorem oldFree_no {env : Env1} : oldFree (.no :: env) = oldFree env := by unfold oldFree; rw [List.all_cons]; rfl
theorem oldFree_sh {f : Bool} {d : D} {env : Env1} : oldFree (.sh f d :: env) = oldFree env := by unfold oldFree; rw [List.all_cons]; rfl
theorem oldFree_ow {f : Bool} {d : D} {env : Env1} : oldFree (.ow true f d :: env) = oldFree env := by unfold oldFree; rw [List.all_cons]; rfl
end R
namespace R
open PySem PySem.Spec PyProof.Rows L2
/-! ### the chain of defs -/
def addF (ft : FT) (x : Str) (s : FSpec) : FT := { ft with fn := fun y => if y = x then some s else ft.fn y }
section
variable {ft : FT} {k : Nat} {P : Program} {w : World} {K : PySem.W.Frag} {mg : Str → Option Value} {base : Heap} {tabs : List Addr}
theorem LE.add {x : Str} {s : FSpec} {a : Addr} {fd : FuncData} {ps : List Str} (L : LE ft k P w K mg base tabs) (hg : mg x = some (.ref a)) (hk : PySem.W.keepIn K (.ref a) = true) (hb : Binds K fd ps []) (hn : ps.length = s.n)
    (h : FnOk P w K mg base (CX P w) k a fd ps (spD K mg tabs s)) : LE { ft with fn := fun y => if y = x then some s else ft.fn y } k P w K mg base tabs := by
  refine ⟨L.bi, fun f s' e => ?_, L.gl⟩
  have e' : (if f = x then some s else ft.fn f) = some s' := e
  split at e'
  · rename_i hx
    cases e'
    rw [hx]
    exact ⟨a, fd, ps, hg, hk, hb, hn, h⟩
  · exact L.fn f s' e'
theorem LE.ge {b : Bool} (L : LE ft k P w K mg base tabs) : LE { ft with ge := b } k P w K mg base tabs := ⟨L.bi, L.fn, L.gl⟩
/-- one def of the chain -/
theorem def_step {N : List Str} {x : Str} {st : Stmt} {a : Addr} {fd : FuncData} {ps : List Str} (L : LE ft k P w K mg base tabs) (F : Fun K x x st a fd) (S : FnScope N ps (defScope st)) (body : SL) (hm : mtSl N (defScope st) body (defBody st) = true) (s : FSpec) (hn : ps.length = s.n)
    (hF : ∀ ds r, ds.length = s.n → s.F ds = some r → evDef { ft with ge := false } N.length s body ds = some r) : FnOk P w K mg base (CX P w) (k + 1) a fd ps (spD K mg tabs s) :=
  def_ok (k := k) (k' := k) (LE.ge (b := false) L) F S body hm s hn hF (Nat.le_refl k) (fun h => by cases h)
/-- one def that makes generators -/
theorem def_stepG {N : List Str} {x : Str} {st : Stmt} {a : Addr} {fd : FuncData} {ps : List Str} (L : LE ft k P w K mg base tabs) (F : Fun K x x st a fd) (S : FnScope N ps (defScope st)) (body : SL) (hm : mtSl N (defScope st) body (defBody st) = true) (s : FSpec) (hn : ps.length = s.n)
    (hF : ∀ ds r, ds.length = s.n → s.F ds = some r → evDef { ft with ge := true } N.length s body ds = some r)
    (ht : ∃ c T, fd.code = .ref c ∧ GxR.TabB base mg c T ∧ T ∈ tabs) : FnOk P w K mg base (CX P w) (k + 2) a fd ps (spD K mg tabs s) :=
  def_ok (k := k) (k' := k + 1) (LE.ge (b := true) L) F S body hm s hn hF (Nat.le_succ k) (fun _ => ⟨Nat.le_refl _, fun cdv ⟨kV, doc, pm, an, ct, e⟩ => by
    obtain ⟨c, T, h1, h2, h3⟩ := ht
    rw [e] at h1
    exact ⟨c, T, h1, h2, h3⟩⟩)
end
/-! ### the head's facts -/
def notLst (o : Obj) : Bool := match o.cls with
  | .type c => decide (c ≠ "list")
  | _ => true
def codeOf (K : PySem.W.Frag) (x : Str) : Addr := match K.lookup (He.ga K x) with
  | some ⟨_, _, .func fd, _⟩ => (match fd.code with
    | .ref c => c
    | _ => 0)
  | _ => 0
def tabOf (K : PySem.W.Frag) (x : Str) : Addr := match K.lookup (codeOf K x) with
  | some ⟨_, _, .fields vs, _⟩ => (match vs.getD 11 .none with
    | .ref P => P
    | _ => 0)
  | _ => 0
def isTab : Option Obj → Bool
  | some ⟨.none, none, .fields vs, sl⟩ => vs.isEmpty && sl.isEmpty
  | _ => false
theorem isTab_ok {o : Option Obj} (h : isTab o = true) : o = some { cls := .none, data := .fields #[] } := by
  unfold isTab at h
  split at h
  · rw [Bool.and_eq_true, Array.isEmpty_iff, Array.isEmpty_iff] at h
    obtain ⟨rfl, rfl⟩ := h
    rfl
  · cases h
def asT (g : Addr → Option Obj) (n : Nat) (gs : List Str) : List Addr :=
  let as := He.asD g n
  let Ps := gs.map (tabOf (He.frG g as))
  as.filter fun a => !(Ps.contains a) && (match g a with
    | some o => notLst o
    | none => false)
def tabChk (g : Addr → Option Obj) (K : PySem.W.Frag) (x : Str) : Bool := match K.lookup (He.ga K x) with
  | some ⟨_, _, .func fd, _⟩ => (match fd.code with
    | .ref c => PySem.W.codeHdIn K c (tabOf K x) && (isTab (g (tabOf K x)) && (K.lookup (tabOf K x)).isNone)
    | _ => false)
  | _ => false
/-- a dict of the top, texts to numbers -/
abbrev TD : Type := Str × List (Str × Int)
def dvals (kvs : List (Str × Int)) : List (Str × He.Dv) := kvs.map fun q => (q.1, He.Dv.int q.2)
abbrev AlT : Type := He.AlD × List Bool × Bool × List (Option (List (Option (Str × Int)))) × Bool
def obsT0 (fa : List He.Fa) (fn : List He.DefD) (gs : List Str) (ds : List TD) (g : Addr → Option Obj) (K : PySem.W.Frag) : AlT := (He.obsD fa fn K, gs.map (tabChk g K), K.all fun p => notLst p.2, ds.map fun d => He.dicW K (He.ga K d.1), ds.all fun d => He.valsB K (He.ga K d.1) (dvals d.2))
def obsT (n : Nat) (fa : List He.Fa) (fn : List He.DefD) (gs : List Str) (ds : List TD) (g : Addr → Option Obj) : AlT := obsT0 fa fn gs ds g (He.frG g (asT g n gs))
def valT (fn : List He.DefD) (gs : List Str) (ds : List TD) (w : World) : AlT := (He.valD fn, gs.map fun _ => true, true, ds.map fun d => some (He.keysIn w.params (d.2.map (·.1))), true)
structure SaysT (fa : List He.Fa) (fn : List He.DefD) (gs : List Str) (ds : List TD) (w : World) (K : PySem.W.Frag) (h : Heap) : Prop where
  says : He.SaysD fa fn K
  tab : ∀ x, x ∈ gs → ∃ oc od fd sl c T, K.lookup (He.ga K x) = some ⟨oc, od, .func fd, sl⟩ ∧ fd.code = .ref c ∧ PySem.W.codeHdIn K c T = true ∧ h.get? T = some { cls := .none, data := .fields #[] } ∧ K.lookup T = none
  lst : ∀ a o, K.lookup a = some o → o.cls ≠ .type "list"
  dic : ∀ d, d ∈ ds → He.dicW K (He.ga K d.1) = some (He.keysIn w.params (d.2.map (·.1))) ∧ He.valsB K (He.ga K d.1) (dvals d.2) = true
theorem tabChk_ok {g : Addr → Option Obj} {K : PySem.W.Frag} {x : Str} (h : tabChk g K x = true) : ∃ oc od fd sl c T, K.lookup (He.ga K x) = some ⟨oc, od, .func fd, sl⟩ ∧ fd.code = .ref c ∧ PySem.W.codeHdIn K c T = true ∧ g T = some { cls := .none, data := .fields #[] } ∧ K.lookup T = none := by
  unfold tabChk at h
  split at h
  · rename_i oc od fd sl e
    split at h
    · rename_i c e2
      rw [Bool.and_eq_true, Bool.and_eq_true] at h
      exact ⟨oc, od, fd, sl, c, _, e, e2, h.1, isTab_ok h.2.1, Option.isNone_iff_eq_none.mp h.2.2⟩
    · cases h
  · cases h
theorem lookup_mem {K : PySem.W.Frag} {a : Addr} {o : Obj} : K.lookup a = some o → ∃ p, p ∈ K ∧ p.2 = o := by
  induction K with
  | nil => exact fun e => nomatch e
  | cons q r ih =>
    intro e
    rw [List.lookup_cons] at e
    split at e
    · cases e; exact ⟨q, List.mem_cons_self, rfl⟩
    · obtain ⟨p, h1, h2⟩ := ih e
      exact ⟨p, List.mem_cons_of_mem _ h1, h2⟩
def hookT (n : Nat) (fa : List He.Fa) (fn : List He.DefD) (gs : List Str) (ds : List TD) : PySem.W.Hook where
  α := AlT
  obs := fun s => obsT n fa fn gs ds s.heap.get?
  val := fun w => valT fn gs ds w
  says := fun w h => ∃ K : PySem.W.Frag, K.In h ∧ SaysT fa fn gs ds w K h
  of := fun w s e => by
    refine ⟨_, He.frG_in (as := asT s.heap.get? n gs), congrArg (fun z : AlT => z.1) e, fun x hx => ?_, fun a o ho hc => ?_, fun d hd => ?_⟩
    · have e2 : gs.map (tabChk s.heap.get? (He.frG s.heap.get? (asT s.heap.get? n gs))) = gs.map fun _ => true := congrArg (fun z : AlT => z.2.1) e
      exact tabChk_ok (List.map_inj_left.mp e2 x hx)
    · have e3 : (He.frG s.heap.get? (asT s.heap.get? n gs)).all (fun p => notLst p.2) = true := congrArg (fun z : AlT => z.2.2.1) e
      obtain ⟨p, hp, rfl⟩ := lookup_mem ho
      have := List.all_eq_true.mp e3 p hp
      unfold notLst at this
      rw [hc] at this
      simp at this
    · have e4 : ds.map (fun d => He.dicW (He.frG s.heap.get? (asT s.heap.get? n gs)) (He.ga (He.frG s.heap.get? (asT s.heap.get? n gs)) d.1)) = ds.map fun d => some (He.keysIn w.params (d.2.map (·.1))) := congrArg (fun z : AlT => z.2.2.2.1) e
      have e5 : (ds.all fun d => He.valsB (He.frG s.heap.get? (asT s.heap.get? n gs)) (He.ga (He.frG s.heap.get? (asT s.heap.get? n gs)) d.1) (dvals d.2)) = true := congrArg (fun z : AlT => z.2.2.2.2) e
      exact ⟨List.map_inj_left.mp e4 d hd, List.all_eq_true.mp e5 d hd⟩
  keeps := fun _ h h' ⟨K, hK, c⟩ k => ⟨K, PySem.W.Frag.In.keeps hK k, c.says, fun x hx => let ⟨oc, od, fd, sl, c', T, h1, h2, h3, h4, h5⟩ := c.tab x hx; ⟨oc, od, fd, sl, c', T, h1, h2, h3, k _ _ h4, h5⟩, c.lst, c.dic⟩
theorem obsT_eq {n : Nat} {fa : List He.Fa} {fn : List He.DefD} {gs : List Str} {ds : List TD} {g : Addr → Option Obj} {s : Shared} (h : ∀ a, g a = s.heap.get? a) : obsT n fa fn gs ds g = (hookT n fa fn gs ds).obs s := by
  have e : g = s.heap.get? := funext h
  rw [e]; rfl
/-! ### the law -/
theorem rpA_ints {K : PySem.W.Frag} {H : Hp} {O : Addr → Prop} : ∀ ns : List Int, RpA K H O (ns.map V.int) (ns.map PyData.int)
  | [] => .nil
  | n :: ns => .cons (.int n) (rpA_ints ns)
theorem lawAt {l : PySem.W.OpenLaw} {w : World} {K : PySem.W.Frag} {mg : Str → Option Value} {fa : Addr} {h : Heap} {k n : Nat} {x : Str} {fd : FuncData} {sp : FSpec} {cs : List (Addr × Addr)} (hn : sp.n = 1) (hmu : sp.mu = []) (KX : K.In h) (nl : ∀ a o, K.lookup a = some o → o.cls ≠ .type "list")
    (h1 : ∀ p, p ∈ cs → h.get? p.2 = some { cls := .none, data := .fields #[] }) (h2 : ∀ p, p ∈ cs → K.lookup p.2 = none) (h3 : ∀ p, p ∈ cs → PySem.W.codeHdIn K p.1 p.2 = true) (hb : ∀ (s : Shared) (u : Value), BindsTo s fd ⟨[u], []⟩ [(x, u)])
    (hF : ∀ base : Heap, K.In base → base.Ns mainGlobals mg → (∀ p, p ∈ cs → GxR.TabB base mg p.1 p.2) → FnOk l.prog w K mg base (CX l.prog w) k fa fd [x] (spD K mg (cs.map (·.2)) sp))
    (hlaw : ∀ ns : List Int, ns.length ≤ n → (∀ z ∈ ns, Builtin.Int.intBits z ≤ 1048576) → sp.F [.list (ns.map .int)] = some (.ok (.bool true, []))) : LamX.LawAtS l w K (CX l.prog w) k n x mg fa h := by
  refine ⟨fd, cs, spD K mg (cs.map (·.2)) sp, h1, h2, fun p hp => PySem.W.codeHd_of_K KX (h3 p hp), hb, fun H a ns hl hbits hT hS => ?_, fun base hK hN hT => hF base hK hN fun p hp => let t := hT p hp; ⟨t.code, t.bm, t.gP⟩⟩
  have hS' : Rd H a (.lst (ns.map V.int)) := by
    rcases hS with z | ⟨o, its, m, e1, e2, _⟩
    · exact z
    · exact absurd e2 (nl a o e1)
  refine ⟨[.list (ns.map .int)], fun _ => False, _, by rw [hn]; rfl, by rw [hn]; rfl, fun _ z => z.elim, fun b z => ?_, fun P hP => ?_, fun i v d _ e1 e2 => ?_, fun i d hi => ?_, fun i j b hi => ?_, hlaw ns hl hbits, fun d ms e v H' g vr _ => ?_, fun c e => ?_⟩
  · obtain ⟨i, hi, _⟩ := z
    rw [hmu] at hi; cases hi
  · obtain ⟨p, hp, rfl⟩ := List.mem_map.mp hP
    exact ⟨#[], hT p hp, by simp [TriplesOk]⟩
  · cases i with
    | zero => cases e1; cases e2; exact .lst hS' (fun z => z) (rpA_ints ns)
    | succ i => simp at e1
  · rw [hmu] at hi; cases hi
  · rw [hmu] at hi; cases hi
  · cases e
    cases vr.1
    rfl
  · cases e
end R
namespace R
open PySem PySem.Spec PyProof.Rows L2
/-! ### a dict of the top: d.get(text, number) -/
def KDi (K : PySem.W.Frag) (w : World) (p : Addr) (kvs : List (Str × Int)) : Prop := ∃ es n, K.lookup p = some ⟨.type "dict", none, .dict es n, #[]⟩ ∧ PySem.W.KeysLit w.params es.toList ∧ (p == sysModules) = false ∧
  ∀ x, (∃ i t, kvs.lookup x = some i ∧ PySem.W.nsIn K p x = some (some (.int i t))) ∨ (kvs.lookup x = none ∧ PySem.W.nsIn K p x = some none)
theorem find_none {P : Params} {x : Str} : ∀ {l : List DictEntry} {ks : List Str}, l.map He.keyOf = He.keysIn P ks → x ∉ ks → l.find? (·.key.isStr x) = none ∧ l.any (·.refKey) = false
  | [], _, _, _ => ⟨rfl, rfl⟩
  | e :: l, [], h, _ => by cases h
  | e :: l, k :: ks, h, hx => by
    have h1 : He.keyOf e :: l.map He.keyOf = some (k, PyData.keyHash P k) :: He.keysIn P ks := h
    injection h1 with h2 h3
    obtain ⟨i1, i2⟩ := find_none h3 fun z => hx (List.mem_cons_of_mem _ z)
    unfold He.keyOf at h2
    split at h2
    · rename_i y t q
      obtain ⟨h5, _⟩ := Prod.mk.inj (Option.some.inj h2)
      have hne : ¬ y = x := fun z => hx (by rw [← z, h5]; exact List.mem_cons_self)
      refine ⟨?_, ?_⟩
      · rw [List.find?_cons_of_neg, i1]
        rw [q]
        simp [Value.isStr]
        exact fun z => hne (by first | exact z | exact z.symm)
      · rw [List.any_cons, i2]
        simp [DictEntry.refKey, q]
    · cases h2
theorem lookup_none {kvs : List (Str × Int)} {x : Str} (h : kvs.lookup x = none) : x ∉ kvs.map (·.1) := by
  induction kvs with
  | nil => simp
  | cons q r ih =>
    rw [List.lookup_cons] at h
    split at h
    · cases h
    · rename_i hq
      rw [List.map_cons, List.mem_cons]
      rintro (z | z)
      · rw [z] at hq; simp at hq
      · exact ih h z
theorem lookup_memD {kvs : List (Str × Int)} {x : Str} {i : Int} (h : kvs.lookup x = some i) : (x, i) ∈ kvs := by
  induction kvs with
  | nil => cases h
  | cons q r ih =>
    rw [List.lookup_cons] at h
    split at h
    · rename_i hq
      cases h
      have : x = q.1 := by simpa using hq
      rw [this]
      exact List.mem_cons_self
    · exact List.mem_cons_of_mem _ (ih h)
theorem kdi_of {K : PySem.W.Frag} {w : World} {d : TD} (h1 : He.dicW K (He.ga K d.1) = some (He.keysIn w.params (d.2.map (·.1)))) (h2 : He.valsB K (He.ga K d.1) (dvals d.2) = true) : KDi K w (He.ga K d.1) d.2 := by
  obtain ⟨es, n, e1, e2, e3⟩ := He.dicW_ok h1
  refine ⟨es, n, e1, e2, e3, fun x => ?_⟩
  cases hl : d.2.lookup x with
  | some i =>
    obtain ⟨u, hu, r⟩ := He.valsB_ok h2 (q := (x, He.Dv.int i)) (List.mem_map.mpr ⟨(x, i), lookup_memD hl, rfl⟩)
    obtain ⟨t, rfl⟩ := r
    exact .inl ⟨i, t, rfl, hu⟩
  | none =>
    refine .inr ⟨rfl, ?_⟩
    unfold He.dicW at h1
    rw [e1] at h1
    have h3 : (match decide ("dict" = "dict") && ((#[] : Array (Option Value)).isEmpty && !(He.ga K d.1 == sysModules)) with
      | true => some (es.toList.map He.keyOf)
      | false => none) = some (He.keysIn w.params (d.2.map (·.1))) := h1
    rw [e3] at h3
    have h4 : es.toList.map He.keyOf = He.keysIn w.params (d.2.map (·.1)) := Option.some.inj h3
    obtain ⟨f1, f2⟩ := find_none h4 (lookup_none hl)
    unfold PySem.W.nsIn
    rw [e1]
    simp only
    rw [f1, f2]
    rfl
section
variable {X : Cx}
theorem pe_kget {x : Str} {e f : Expr} {te tf : TE} {p : Addr} {kvs : List (Str × Int)} {px apos cpos : Pos} (hg : Gl X x) (hm : X.mg x = some (.ref p)) (hd : (x == ("__debug__" : Str)) = false) (kd : KDi X.K X.w p kvs) (he : PE X e te) (hf : PE X f tf) (m : M2 X (.Name x px) "get" apos e f cpos) :
    PE X (.Call (.Attribute (.Name x px) "get" apos) [e, f] [] cpos) (fun σ H Q => te σ H fun y H2 => tf σ H2 fun z H3 => ∃ a c, y = .str a ∧ z = .int c ∧ Q (.int ((kvs.lookup a).getD c)) H3) := by
  refine ⟨fun pins s σ H Q I h => ?_⟩
  obtain ⟨es, n, e1, e2, e3, e4⟩ := kd
  have ho : PE X (.Name x px) (tC (.ref p)) := pe_glob hg hm rfl hd
  refine wpAny_Call_method m.base m.few m.line PySem.F.plainAttrs_dict PySem.F.slot_dict_get PySem.F.type_dict_get (thn (ho.run pins s σ H (fun v H' => v = .ref p ∧ H' = H) I ⟨rfl, rfl⟩) fun u s1 ⟨v1, H1, I1, rx, q1, q2⟩ => ?_)
  subst q1 q2
  obtain rfl : u = Value.ref p := rx
  have hm1 := PySem.W.mapOf_K (prog := X.prog) (w := X.w) I1.kIn e1 e2
  refine ⟨hm1.typeIs, fun b q => ?_, ?_⟩
  · cases q
    exact ⟨_, I1.kIn _ _ e1, rfl⟩
  rw [m.trees]
  refine Calls.callWith_builtin rfl (Calls.evalArgs_plain (Calls.spliced_cons (thn (he.run pins s1 σ H1 _ I1 h) fun iv s2 ⟨y, H2, I2, ry, q2⟩ =>
    Calls.spliced_cons (thn (hf.run pins s2 σ H2 _ I2 q2) fun fv s3 ⟨z, H3, I3, rz, a, c, ey, ez, q3⟩ => Calls.spliced_nil ?_))))
  subst ey ez
  obtain ⟨ty, rfl⟩ := ry
  obtain ⟨tz, rfl⟩ := rz
  have hm3 := PySem.W.mapOf_K (prog := X.prog) (w := X.w) I3.kIn e1 e2
  refine call_meetsIn PySem.F.slot_dict_get hm3.typeIs PySem.F.entry_dict_get (PySem.F.args_dict_get_3 _ _ _) (meets_dict_get_default (strKind X.prog X.w) p (strKind_is X.prog X.w a ty) e3 _) ⟨_, hm3, ?_⟩
  rcases e4 a with ⟨i, t, l1, l2⟩ | ⟨l1, l2⟩
  · rw [l1] at q3
    rw [show PySem.findBy Value.isStrOf es a = some (.int i t) from PySem.W.find_K e1 l2]
    exact ⟨.int i, H3, I3.tok _, ⟨t, rfl⟩, q3⟩
  · rw [l1] at q3
    rw [show PySem.findBy Value.isStrOf es a = none from PySem.W.find_K e1 l2]
    exact ⟨.int c, H3, I3.tok _, ⟨tz, rfl⟩, q3⟩
end
/-! ### def f(word): return D.get(word, c) -/
def popFn (kvs : List (Str × Int)) (c : Int) : List R.D → Ex (R.D × List R.D)
  | [.str w] => some (.ok (.int ((kvs.lookup w).getD c), []))
  | _ => none
theorem popFn_inv {kvs : List (Str × Int)} {c : Int} {ds : List R.D} {r : Except Str (R.D × List R.D)} (h : popFn kvs c ds = some r) : ∃ w, ds = [.str w] ∧ r = .ok (.int ((kvs.lookup w).getD c), []) := by
  unfold popFn at h
  split at h
  · cases h; exact ⟨_, rfl, rfl⟩
  · cases h
def popF (kvs : List (Str × Int)) (c : Int) : FSpec := ⟨1, [], ⟨false, false⟩, popFn kvs c⟩
/-- such a body -/
def popB (N : List Str) (sc : Scope) (x : Str) (c : Int) : List Stmt → Bool
  | [.Return (some (.Call (.Attribute (.Name y _) m apos) [.Name z _, .Constant (.int i) _ _] [] cpos)) _] => decide (m = "get") && decide (y = x) && decide (i = c) && glbB sc y && !(y == ("__debug__" : Str)) && slotB' N sc 0 z && (apos.endLine == cpos.line)
  | _ => false
theorem pop_step {ft : FT} {k : Nat} {P : Program} {w : World} {K : PySem.W.Frag} {mg : Str → Option Value} {base : Heap} {tabs : List Addr} {N : List Str} {f x : Str} {st : Stmt} {a p : Addr} {fd : FuncData} {ps : List Str} {kvs : List (Str × Int)} {c : Int} (F : Fun K f f st a fd) (S : FnScope N ps (defScope st)) (hps : ps.length = 1)
    (hb : popB N (defScope st) x c (defBody st) = true) (hx : mg x = some (.ref p)) (kd : KDi K w p kvs) : FnOk P w K mg base (CX P w) (k + 1) a fd ps (spD K mg tabs (popF kvs c)) := by
  obtain ⟨oc, od, kV, doc, pm, an, cdv, ct, osl, rfl, lk, hcd⟩ := F.ex
  refine fn_of lk hcd S (spD_len (s := popF kvs c) hps) fun A outer sh H vs Q E hr hsp => ?_
  obtain ⟨ds, O, r, hl, hdl, ho, hmo, htb, hsh, how, hinj, hFd, hok, herr⟩ := hsp
  generalize hX : cxOf (CX P w) P w K mg base N f (defScope st) a cdv A outer sh H E = X
  unfold popB at hb
  split at hb
  · rename_i y py m apos z pz i j pc cpos pos eb
    simp only [Bool.and_eq_true, decide_eq_true_eq, Bool.not_eq_true'] at hb
    obtain ⟨⟨⟨⟨⟨⟨rfl, rfl⟩, rfl⟩, hg⟩, hdb⟩, hs⟩, hline⟩ := hb
    obtain ⟨wd, rfl, rfl⟩ := popFn_inv hFd
    have hXK : X.K = K := by rw [← hX]; rfl
    have hXm : X.mg = mg := by rw [← hX]; rfl
    have hXw : X.w = w := by rw [← hX]; rfl
    have hgl : Gl X y := by
      subst hX
      unfold glbB at hg
      show (defScope st).names.lookup y = _
      cases e : (defScope st).names.lookup y with
      | none => rw [e] at hg; cases hg
      | some kd =>
        rw [e] at hg
        cases kd with
        | globalImplicit => rfl
        | _ => cases hg
    obtain ⟨v, hv⟩ : ∃ v, vs[0]? = some v := by
      have : vs.length = 1 := hl
      exact ⟨vs[0], by simp [this]⟩
    have hv1 : vs = [v] := by
      have h1 : vs.length = 1 := hl
      match vs, h1, hv with
      | [u], _, h => cases h; rfl
    subst hv1
    have rv := hsh 0 v (.str wd) (by simp [popF]) rfl rfl
    have hvs : v = .str wd := by cases rv; rfl
    subst hvs
    rw [eb]
    simp only [slotB', Bool.and_eq_true, decide_eq_true_eq, okName, Bool.not_eq_true'] at hs
    obtain ⟨⟨hN, hvis⟩, ⟨h1, h2⟩, _⟩ := hs
    have hvis' : Vis X.env.scope z := by
      subst hX
      unfold visB at hvis
      show (defScope st).names.lookup z = _ ∨ (defScope st).names.lookup z = _ ∨ (defScope st).names.lookup z = _
      cases e : (defScope st).names.lookup z with
      | none => rw [e] at hvis; cases hvis
      | some kd =>
        rw [e] at hvis
        cases kd with
        | «local» => exact .inl rfl
        | cell => exact .inr (.inl rfl)
        | free => exact .inr (.inr rfl)
        | _ => cases hvis
    have hXN : X.N = N := by rw [← hX]; rfl
    refine ⟨_, pss_one (ps_ret (pe_kget (X := X) (kvs := kvs) (p := p) hgl (by rw [hXm]; exact hx) hdb (by rw [hXK, hXw]; exact kd) (pe_var (i := 0) (by rw [hXN]; exact hN) hvis' h1 h2) pe_int ⟨rfl, rfl, hline, rfl⟩)), ?_⟩
    refine ⟨.str wd, by simp [L2.start], wd, i, rfl, rfl, ?_⟩
    exact hok _ _ rfl _ H GrM.refl ⟨.int _, fun z => by cases z⟩ fun j i b hj _ => by simp [popF] at hj
  · cases hb
end R
namespace R
open PySem PySem.Spec PyProof.Rows L2
/-! ### what a body ends with, by its kind -/
def EndsK (kd : Kd) (Q : D → Prop) (o : Option Oc) : Prop := ∃ env k d, o = some (.rt env k d) ∧ Q d ∧ (kd.own = true → k.own = true) ∧ (kd.fr = true → (k.fr || noMut d) = true)
theorem EndsK.fin {kd : Kd} {Q : D → Prop} {o : Option Oc} {n : Nat} {F : List D → Ex (D × List D)} (h : EndsK kd Q o) : ∃ d, Q d ∧ endD ⟨n, [], kd, F⟩ o = some (.ok (d, [])) := by
  obtain ⟨env, k, d, rfl, q, h1, h2⟩ := h
  refine ⟨d, q, ?_⟩
  show (if (kd.own = true → k.own = true) ∧ (kd.fr = true → (k.fr || noMut d) = true) then ok (d, musOf env []) else none) = _
  rw [if_pos ⟨h1, h2⟩]
  rfl
theorem EndsK.eq {kd : Kd} {x : D} {o : Option Oc} {n : Nat} {F : List D → Ex (D × List D)} (h : EndsK kd (fun d => d = x) o) : endD ⟨n, [], kd, F⟩ o = some (.ok (x, [])) := by
  obtain ⟨d, q, e⟩ := EndsK.fin (n := n) (F := F) h
  subst q
  exact e
theorem EndsK.nm {own : Bool} {Q : D → Prop} {env : Env1} {k : Kd} {d : D} (h : Q d) (hd : noMut d = true) : EndsK ⟨false, own⟩ Q (some (.rt env k d)) := ⟨env, k, d, rfl, h, fun z => (by cases z), fun _ => by rw [hd, Bool.or_true]⟩
theorem EndsK.fr {Q : D → Prop} {env : Env1} {own : Bool} {d : D} (h : Q d) : EndsK ⟨false, true⟩ Q (some (.rt env ⟨own, true⟩ d)) := ⟨env, _, d, rfl, h, fun z => (by cases z), fun _ => rfl⟩
theorem EndsK.of {Q : D → Prop} {env : Env1} {d : D} (h : Q d) : EndsK ⟨true, true⟩ Q (some (.rt env ⟨true, true⟩ d)) := ⟨env, _, d, rfl, h, fun _ => rfl, fun _ => rfl⟩
theorem EndsK.ow {Q : D → Prop} {env : Env1} {f : Bool} {d : D} (h : Q d) : EndsK ⟨true, false⟩ Q (some (.rt env ⟨true, f⟩ d)) := ⟨env, _, d, rfl, h, fun _ => rfl, fun z => by cases z⟩
theorem noMutA_of {ds : List D} (h : ∀ d, d ∈ ds → noMut d = true) : noMutA ds = true := by
  induction ds with
  | nil => rfl
  | cons d ds ih =>
    show (noMut d && noMutA ds) = true
    rw [h d List.mem_cons_self, ih fun x hx => h x (List.mem_cons_of_mem _ hx)]; rfl
theorem noMut_tup {ds : List D} : noMut (.tuple ds) = noMutA ds := rfl
theorem lcGo_allF {c : D → Ex Bool} {f : D → Rs} {Pr : D → Prop} (hc : ∀ d, c d = some (.ok true)) : ∀ {ds : List D}, (∀ d, d ∈ ds → ∃ o r, f d = some (.ok (⟨o, true⟩, r)) ∧ Pr r) → ∃ rs, lcGo c f ds = some (.ok (true, rs)) ∧ rs.length = ds.length ∧ ∀ r, r ∈ rs → Pr r
  | [], _ => ⟨[], rfl, rfl, fun r h => by simp at h⟩
  | d :: ds, h => by
    obtain ⟨o, r, e, p⟩ := h d List.mem_cons_self
    obtain ⟨rs, e2, l, q⟩ := lcGo_allF hc (ds := ds) fun x hx => h x (List.mem_cons_of_mem _ hx)
    refine ⟨r :: rs, ?_, by simp [l], fun x hx => ?_⟩
    · simp only [lcGo]
      rw [hc, bnd_ok, if_pos rfl, e, bnd_ok, e2, bnd_ok]
      rfl
    · rcases List.mem_cons.mp hx with z | z
      · rw [z]; exact p
      · exact q x z
theorem lc_allF {ft : FT} {i : Nat} {src : XS} {e : X} {env : Env1} {f : Bool} {ds : List D} {Pr : D → Prop} (hs : evS ft src env = some (.ok (f, ds))) (hi : i < env.length) (hl : lenOk ds.length = true)
    (h : ∀ d, d ∈ ds → ∃ o r, evE ft e (env.set i (.sh f d)) = some (.ok (⟨o, true⟩, r)) ∧ Pr r) : ∃ rs, evE ft (.lc i src .no e) env = some (.ok (⟨true, true⟩, .list rs)) ∧ rs.length = ds.length ∧ ∀ r, r ∈ rs → Pr r := by
  obtain ⟨rs, e1, l, q⟩ := lcGo_allF (c := fun d => evC ft .no (env.set i (.sh f d))) (f := fun d => evE ft e (env.set i (.sh f d))) (fun _ => rfl) h
  refine ⟨rs, ?_, l, q⟩
  simp only [evE]
  rw [hs, bnd_ok]
  simp only
  rw [if_pos ⟨hi, hl⟩, e1]
  show bnd (some (.ok (true, rs))) _ = _
  rw [bnd_ok]
theorem evE_neg {ft : FT} {a : X} {env : Env1} : evE ft (.neg a) env = bd (evE ft a env) fun r => match r.2 with
      | .int i => ok (sc (.int (-i)))
      | _ => none := by simp only [bd_eq]; rfl
theorem bf_min {f g : Bool} {i j : Int} : bfE "min" [(f, .int i), (g, .int j)] = some (sc (.int (if j < i then j else i))) := Eq.trans rfl rfl
theorem evE_g {ft : FT} {n : Str} {env : Env1} : evE ft (.g n) env = lift ((ft.gl n).map fun d => (⟨false, true⟩, d)) := Eq.trans rfl rfl
theorem at_last {xs : List D} {x : D} : L2.atI (xs ++ [x]) (-1) = some x := L2.atI_last xs x
theorem cut_init {xs : List D} {x : D} : cutD (xs ++ [x]) none (some (-1)) = xs := by
  unfold cutD
  rw [HT.sIx_none]
  have : HT.sIx (xs ++ [x]).length (xs ++ [x]).length (some (-1)) = xs.length := by
    show (if (-1 : Int) < 0 then ((-1 : Int) + ((xs ++ [x]).length : Int)).toNat else min (-1 : Int).toNat (xs ++ [x]).length) = _
    rw [if_pos (by decide), List.length_append]
    simp only [List.length_cons, List.length_nil]
    omega
  rw [this]
  simp
theorem evO_so {ft : FT} {x : X} {env : Env1} : evO ft (.so x) env = bd (evE ft x env) fun r => match r.2 with
      | .int i => ok (some i)
      | _ => none := by simp only [bd_eq]; rfl
mutual
theorem eqv_refl : ∀ (d : D), PyData.canLay0 d = true → PyData.eqv d d = true
  | .none, _ => rfl
  | .bool b, _ => by unfold PyData.eqv; cases b <;> rfl
  | .int i, _ => by unfold PyData.eqv; simp
  | .str x, _ => by unfold PyData.eqv; simp
  | .list xs, h => eqvs_refl xs h
  | .tuple xs, h => eqvs_refl xs h
  | .dict _, h => by cases h
theorem eqvs_refl : ∀ (ds : List D), PyData.canLayAll0 ds = true → PyData.eqvAll ds ds = true
  | [], _ => rfl
  | d :: ds, h => by
    have h2 : (PyData.canLay0 d && PyData.canLayAll0 ds) = true := h
    rw [Bool.and_eq_true] at h2
    show (PyData.eqv d d && PyData.eqvAll ds ds) = true
    rw [eqv_refl d h2.1, eqvs_refl ds h2.2]; rfl
end
theorem cmp_ne_self {f g : Bool} {d : D} (h : shapedB d = true) : cmpE .NotEq (f, d) (g, d) = some false := by
  have hc : cmpE .NotEq (f, d) (g, d) = if (shapedB d && shapedB d) = true then some (!PyData.eqv d d) else none := rfl
  have h2 : (PyData.canLay0 d && decide (PyData.depth d ≤ 64)) = true := h
  rw [Bool.and_eq_true] at h2
  rw [hc, h, if_pos (show (true && true) = true from rfl), eqv_refl d h2.1]; rfl
theorem cmp_isnot {f g : Bool} {d : D} : cmpE .IsNot (f, d) (g, .none) = some (match d with | .none => false | _ => true) := by cases d <;> rfl
theorem evSt_mat {ft : FT} {i : Nat} {cs : CL} {env : Env1} : evSt ft (.mat i cs) env = match env[i]? with
      | some (.sh f d) => evCs ft cs f d env
      | _ => none := Eq.trans rfl rfl
theorem evCs_nil {ft : FT} {f : Bool} {d : D} {env : Env1} : evCs ft .nil f d env = some (.nx env) := Eq.trans rfl rfl
theorem evCs_no {ft : FT} {p : Pt} {g : XO} {b : SL} {cs : CL} {f : Bool} {d : D} {env : Env1} (h : ptE p d = some none) : evCs ft (.cons p g b cs) f d env = evCs ft cs f d env := by
  have e : evCs ft (.cons p g b cs) f d env = match ptE p d with
      | none => none
      | some none => evCs ft cs f d env
      | some (some bs) => match putB env f bs with
        | none => none
        | some e1 => exO (grdE ft g e1) fun t => if t = true then evSl ft b e1 else evCs ft cs f d e1 := rfl
  rw [e, h]
theorem evCs_yes {ft : FT} {p : Pt} {b : SL} {cs : CL} {f : Bool} {d : D} {env e1 : Env1} {bs : List (Nat × D)} (h : ptE p d = some (some bs)) (h2 : putB env f bs = some e1) : evCs ft (.cons p .no b cs) f d env = evSl ft b e1 := by
  have e : evCs ft (.cons p .no b cs) f d env = match ptE p d with
      | none => none
      | some none => evCs ft cs f d env
      | some (some bs) => match putB env f bs with
        | none => none
        | some e1 => exO (grdE ft .no e1) fun t => if t = true then evSl ft b e1 else evCs ft cs f d e1 := rfl
  rw [e, h]
  simp only
  rw [h2]
  rfl
theorem pt_one_no {ws : List Str} {w : Str} (h : w ∉ ws) : ptE (.one ws) (.str w) = some none := by
  show some (if w ∈ ws then some [] else none) = _
  rw [if_neg h]
theorem pt_one_yes {ws : List Str} {w : Str} (h : w ∈ ws) : ptE (.one ws) (.str w) = some (some []) := by
  show some (if w ∈ ws then some [] else none) = _
  rw [if_pos h]
theorem pt_tup_len {ps : List P1} {ds : List D} (h : ds.length ≠ ps.length) : ptE (.tup ps) (.tuple ds) = some none := by
  show (if ds.length = ps.length then psE ps ds else some none) = _
  rw [if_neg h]
theorem pt_one1_no {ws : List Str} {w : Str} (h : w ∉ ws) : ptE (.tup [.lit ws]) (.tuple [.str w]) = some none := by
  show (if 1 = 1 then psE [.lit ws] [.str w] else some none) = _
  rw [if_pos rfl]
  simp only [psE, p1E]
  rw [if_neg h]
theorem pt_one1_yes {ws : List Str} {w : Str} (h : w ∈ ws) : ptE (.tup [.lit ws]) (.tuple [.str w]) = some (some []) := by
  show (if 1 = 1 then psE [.lit ws] [.str w] else some none) = _
  rw [if_pos rfl]
  simp only [psE, p1E]
  rw [if_pos h]
  rfl
theorem putB_nil {env : Env1} {f : Bool} : putB env f [] = some env := Eq.trans rfl rfl
theorem bf_max_l {f : Bool} {ks : List Int} : bfE "max" [(f, .list (ks.map .int))] = (maxI ks).map fun m => sc (.int m) := by
  show ((intsD (ks.map PyData.int)).bind maxI).map (fun m => sc (.int m)) = _
  rw [intsD_map]
  rfl
theorem evT_mem {w : Str} {ws : List Str} {f g : Bool} (h : (ws.map PyData.str).all isSc = true) : cmpE .In (f, .str w) (g, .tuple (ws.map .str)) = some (memFlat (.str w) (ws.map .str)) := by
  show (if (isSc (.str w) && (ws.map PyData.str).all isSc) = true then some (memFlat (.str w) (ws.map .str)) else none) = _
  rw [h]; rfl
theorem ixN_last {n : Nat} : ixN (n + 1) (-1) = some n := by
  unfold ixN
  simp
  omega
theorem set_last {xs : List D} {x y : D} : (xs ++ [x]).set xs.length y = xs ++ [y] := by
  rw [List.set_append_right _ _ (Nat.le_refl _), Nat.sub_self]; rfl
theorem len_last {xs : List D} {x : D} : (xs ++ [x]).length = xs.length + 1 := by rw [List.length_append]; rfl
theorem mc_drop {ft : FT} {f : Str} {s : FSpec} {es : XL} {env e1 : Env1} {ds ms : List D} {d : D} {js : List Nat} (hf : ft.fn f = some s) (ha : evMA ft s.mu 0 es env = some (.ok ds)) (hj : (muPr s.mu 0 es).map (·.2) = js) (hl : ds.length = s.n ∧ js.Nodup ∧ (muPr s.mu 0 es).map (·.1) = s.mu)
    (hF : s.F ds = some (.ok (d, ms))) (hp : putMu env js ms = some e1) : evSt ft (.mc .drop f es) env = some (.nx e1) := by
  subst hj
  have e : evSt ft (.mc .drop f es) env = match ft.fn f with
      | some s => exO (evMA ft s.mu 0 es env) fun ds => if ds.length = s.n ∧ ((muPr s.mu 0 es).map (·.2)).Nodup ∧ (muPr s.mu 0 es).map (·.1) = s.mu then
          exO (s.F ds) fun r => (putMu env ((muPr s.mu 0 es).map (·.2)) r.2).bind fun e1 => mcEnd .drop ⟨s.kd.own, s.kd.fr || noMut r.1⟩ r.1 e1 else none
      | none => none := Eq.trans rfl rfl
  rw [e, hf]
  simp only
  rw [ha]
  show (if _ then _ else none) = _
  rw [if_pos hl, hF]
  show (putMu env _ ms).bind _ = _
  rw [hp]
  rfl
theorem mc_set {ft : FT} {f : Str} {s : FSpec} {i : Nat} {es : XL} {env e1 e2 : Env1} {ds ms : List D} {d : D} {js : List Nat} (hf : ft.fn f = some s) (ha : evMA ft s.mu 0 es env = some (.ok ds)) (hj : (muPr s.mu 0 es).map (·.2) = js) (hl : ds.length = s.n ∧ js.Nodup ∧ (muPr s.mu 0 es).map (·.1) = s.mu)
    (hF : s.F ds = some (.ok (d, ms))) (hp : putMu env js ms = some e1) (ho : s.kd.own = false) (hq : putS e1 i ⟨false, s.kd.fr || noMut d⟩ d = some e2) : evSt ft (.mc (.set i) f es) env = some (.nx e2) := by
  subst hj
  have e : evSt ft (.mc (.set i) f es) env = match ft.fn f with
      | some s => exO (evMA ft s.mu 0 es env) fun ds => if ds.length = s.n ∧ ((muPr s.mu 0 es).map (·.2)).Nodup ∧ (muPr s.mu 0 es).map (·.1) = s.mu then
          exO (s.F ds) fun r => (putMu env ((muPr s.mu 0 es).map (·.2)) r.2).bind fun e1 => mcEnd (.set i) ⟨s.kd.own, s.kd.fr || noMut r.1⟩ r.1 e1 else none
      | none => none := Eq.trans rfl rfl
  rw [e, hf]
  simp only
  rw [ha]
  show (if _ then _ else none) = _
  rw [if_pos hl, hF]
  show (putMu env _ ms).bind _ = _
  rw [hp]
  show (if s.kd.own = true then none else (putS e1 i ⟨false, s.kd.fr || noMut d⟩ d).map Oc.nx) = _
  rw [ho, hq]
  rfl
end R
set_option maxHeartbeats 4000000
namespace K03RWA
open PySem PySem.Spec PyProof.Rows L2
abbrev topS (i : Nat) : Stmt := PySem.Challenge.pw_sleepwalk_k03_boxes.main.body.getD i (.Pass ⟨0, 0, 0, 0⟩)
def N_is_number : List Str := ["value"]
def b_is_number : R.SL := (.cons (.ret (.and (.isi (.v 0) ["int"] true) (.not (.isi (.v 0) ["bool"] true)))) .nil)
theorem s_is_number : FnScope N_is_number ["value"] (defScope (topS 7)) := ⟨rfl, rfl, rfl, by decide +kernel, rfl, by decide +kernel, by decide +kernel⟩
theorem m_is_number : R.mtSl N_is_number (defScope (topS 7)) b_is_number (defBody (topS 7)) = true := by decide +kernel
def N_thing_of : List Str := ["value", "things"]
def b_thing_of : R.SL := (.cons (.ife (.isi (.v 0) ["tuple"] true) (.cons (.ret (.ix (.v 1) (.ix (.v 0) (.k (.int 1))))) .nil) .nil) (.cons (.ret (.k .none)) .nil))
theorem s_thing_of : FnScope N_thing_of ["value", "things"] (defScope (topS 8)) := ⟨rfl, rfl, rfl, by decide +kernel, rfl, by decide +kernel, by decide +kernel⟩
theorem m_thing_of : R.mtSl N_thing_of (defScope (topS 8)) b_thing_of (defBody (topS 8)) = true := by decide +kernel
def N_is_box : List Str := ["value", "things", "thing"]
def b_is_box : R.SL := (.cons (.set 2 (.call "thing_of" (.cons (.v 0) (.cons (.v 1) .nil)))) (.cons (.ret (.and (.cmp .IsNot (.v 2) (.k .none)) (.cmp .Eq (.ix (.v 2) (.k (.int 0))) (.k (.str "box"))))) .nil))
theorem s_is_box : FnScope N_is_box ["value", "things"] (defScope (topS 9)) := ⟨rfl, rfl, rfl, by decide +kernel, rfl, by decide +kernel, by decide +kernel⟩
theorem m_is_box : R.mtSl N_is_box (defScope (topS 9)) b_is_box (defBody (topS 9)) = true := by decide +kernel
def N_is_function : List Str := ["value", "things", "thing"]
def b_is_function : R.SL := (.cons (.set 2 (.call "thing_of" (.cons (.v 0) (.cons (.v 1) .nil)))) (.cons (.ret (.and (.cmp .IsNot (.v 2) (.k .none)) (.cmp .Eq (.ix (.v 2) (.k (.int 0))) (.k (.str "fun"))))) .nil))
theorem s_is_function : FnScope N_is_function ["value", "things"] (defScope (topS 10)) := ⟨rfl, rfl, rfl, by decide +kernel, rfl, by decide +kernel, by decide +kernel⟩
theorem m_is_function : R.mtSl N_is_function (defScope (topS 10)) b_is_function (defBody (topS 10)) = true := by decide +kernel
def N_new_number : List Str := ["things"]
def b_new_number : R.SL := (.cons (.ife (.not (.v 0)) (.cons (.ret (.k (.int 0))) .nil) .nil) (.cons (.ret (.bin .Add (.bf "max" (.cons (.bf "list" (.cons (.v 0) .nil)) .nil)) (.k (.int 1)))) .nil))
theorem s_new_number : FnScope N_new_number ["things"] (defScope (topS 11)) := ⟨rfl, rfl, rfl, by decide +kernel, rfl, by decide +kernel, by decide +kernel⟩
theorem m_new_number : R.mtSl N_new_number (defScope (topS 11)) b_new_number (defBody (topS 11)) = true := by decide +kernel
def N_spoken : List Str := ["value", "things"]
def b_spoken : R.SL := (.cons (.ife (.call "is_box" (.cons (.v 0) (.cons (.v 1) .nil))) (.cons (.ret (.k (.str "box"))) .nil) .nil) (.cons (.ife (.call "is_function" (.cons (.v 0) (.cons (.v 1) .nil))) (.cons (.ret (.k (.str "function"))) .nil) .nil) (.cons (.ret (.bf "str" (.cons (.v 0) .nil))) .nil)))
theorem s_spoken : FnScope N_spoken ["value", "things"] (defScope (topS 12)) := ⟨rfl, rfl, rfl, by decide +kernel, rfl, by decide +kernel, by decide +kernel⟩
theorem m_spoken : R.mtSl N_spoken (defScope (topS 12)) b_spoken (defBody (topS 12)) = true := by decide +kernel
def N_popped_by : List Str := ["word"]
def b_popped_by : R.SL := (.cons (.ret (.me "get" (.g "POPPED") (.cons (.v 0) (.cons (.k (.int 0)) .nil)))) .nil)
theorem s_popped_by : FnScope N_popped_by ["word"] (defScope (topS 15)) := ⟨rfl, rfl, rfl, by decide +kernel, rfl, by decide +kernel, by decide +kernel⟩
def N_reckoned : List Str := ["word", "popped", "first", "second"]
def b_reckoned : R.SL := (.cons (.unp [2, 3] (.v 1)) (.cons (.ife (.cmp .Eq (.v 0) (.k (.str "add"))) (.cons (.ret (.bin .Add (.v 2) (.v 3))) .nil) .nil) (.cons (.ife (.cmp .Eq (.v 0) (.k (.str "minus"))) (.cons (.ret (.bin .Sub (.v 2) (.v 3))) .nil) .nil) (.cons (.ife (.cmp .Eq (.v 0) (.k (.str "times"))) (.cons (.ret (.bin .Mult (.v 2) (.v 3))) .nil) .nil) (.cons (.ife (.cmp .Eq (.v 0) (.k (.str "less"))) (.cons (.ret (.ife (.cmp .Lt (.v 2) (.v 3)) (.k (.int 1)) (.k (.int 0)))) .nil) .nil) (.cons (.ret (.ife (.cmp .Eq (.v 2) (.v 3)) (.k (.int 1)) (.k (.int 0)))) .nil))))))
theorem s_reckoned : FnScope N_reckoned ["word", "popped"] (defScope (topS 16)) := ⟨rfl, rfl, rfl, by decide +kernel, rfl, by decide +kernel, by decide +kernel⟩
theorem m_reckoned : R.mtSl N_reckoned (defScope (topS 16)) b_reckoned (defBody (topS 16)) = true := by decide +kernel
def N_stuck_word : List Str := ["program", "frames", "things", "body", "place", "own", "stack", "instruction", "word", "rest", "popped"]
def b_stuck_word : R.SL := (.cons (.unp [3, 4, 5, 6] (.ix (.v 1) (.neg (.k (.int 1))))) (.cons (.ife (.not (.ch .LtE .Lt (.k (.int 0)) (.v 4) (.bf "len" (.cons (.ix (.v 0) (.v 3)) .nil)))) (.cons (.ret (.k (.str "end"))) .nil) .nil) (.cons (.set 7 (.ix (.ix (.v 0) (.v 3)) (.v 4))) (.cons (.set 8 (.ix (.v 7) (.k (.int 0)))) (.cons (.set 9 (.bin .Sub (.bf "len" (.cons (.v 6) .nil)) (.call "popped_by" (.cons (.v 8) .nil)))) (.cons (.ife (.cmp .Lt (.v 9) (.k (.int 0))) (.cons (.ret (.k (.str "empty"))) .nil) .nil) (.cons (.ife (.call "lacks_own" (.cons (.v 7) (.cons (.v 5) .nil))) (.cons (.ret (.k (.str "own"))) .nil) .nil) (.cons (.set 10 (.sl (.v 6) (.so (.v 9)) .no)) (.cons (.frz 10) (.cons (.ife (.call "is_wrong_kind" (.cons (.v 8) (.cons (.v 10) (.cons (.v 2) .nil)))) (.cons (.ret (.k (.str "kind"))) .nil) .nil) (.cons (.ife (.call "is_too_great" (.cons (.v 8) (.cons (.v 10) .nil))) (.cons (.ret (.k (.str "great"))) .nil) .nil) (.cons (.ife (.and (.cmp .Eq (.v 8) (.k (.str "call"))) (.cmp .GtE (.bf "len" (.cons (.v 1) .nil)) (.g "MOST_FRAMES"))) (.cons (.ret (.k (.str "deep"))) .nil) .nil) (.cons (.ife (.call "is_full" (.cons (.v 8) (.cons (.v 1) .nil))) (.cons (.ret (.k (.str "full"))) .nil) .nil) (.cons (.ret (.k .none)) .nil))))))))))))))
theorem s_stuck_word : FnScope N_stuck_word ["program", "frames", "things"] (defScope (topS 17)) := ⟨rfl, rfl, rfl, by decide +kernel, rfl, by decide +kernel, by decide +kernel⟩
theorem m_stuck_word : R.mtSl N_stuck_word (defScope (topS 17)) b_stuck_word (defBody (topS 17)) = true := by decide +kernel
def N_lacks_own : List Str := ["instruction", "own", "k", "kept", "number"]
def b_lacks_own : R.SL := (.cons (.mat 0 (.cons (.tup [(.lit ["get"]), (.cap 2)]) .no (.cons (.ret (.cmp .GtE (.v 2) (.bf "len" (.cons (.v 1) .nil)))) .nil) (.cons (.tup [(.lit ["fun"]), .wild, (.cap 3)]) .no (.cons (.ret (.ge "any" 4 [0, 2, 3, 4] (.l (.v 3)) (.cmp .GtE (.v 4) (.bf "len" (.cons (.v 1) .nil))))) .nil) .nil))) (.cons (.ret (.k (.bool false))) .nil))
theorem s_lacks_own : FnScope N_lacks_own ["instruction", "own"] (defScope (topS 18)) := ⟨rfl, rfl, rfl, by decide +kernel, rfl, by decide +kernel, by decide +kernel⟩
theorem m_lacks_own : R.mtSl N_lacks_own (defScope (topS 18)) b_lacks_own (defBody (topS 18)) = true := by decide +kernel
def N_is_wrong_kind : List Str := ["word", "popped", "things", "value"]
def b_is_wrong_kind : R.SL := (.cons (.mat 0 (.cons (.one ["add", "minus", "times", "less", "unless"]) .no (.cons (.ret (.not (.ge "all" 3 [0, 1, 2, 3] (.l (.v 1)) (.call "is_number" (.cons (.v 3) .nil))))) .nil) (.cons (.one ["open", "fill"]) .no (.cons (.ret (.not (.call "is_box" (.cons (.ix (.v 1) (.k (.int 0))) (.cons (.v 2) .nil))))) .nil) (.cons (.one ["call"]) .no (.cons (.ret (.not (.call "is_function" (.cons (.ix (.v 1) (.k (.int 0))) (.cons (.v 2) .nil))))) .nil) .nil)))) (.cons (.ret (.k (.bool false))) .nil))
theorem s_is_wrong_kind : FnScope N_is_wrong_kind ["word", "popped", "things"] (defScope (topS 19)) := ⟨rfl, rfl, rfl, by decide +kernel, rfl, by decide +kernel, by decide +kernel⟩
theorem m_is_wrong_kind : R.mtSl N_is_wrong_kind (defScope (topS 19)) b_is_wrong_kind (defBody (topS 19)) = true := by decide +kernel
def N_is_too_great : List Str := ["word", "popped"]
def b_is_too_great : R.SL := (.cons (.ret (.and (.cmp .In (.v 0) (.tup (.cons (.k (.str "add")) (.cons (.k (.str "minus")) (.cons (.k (.str "times")) .nil))))) (.cmp .Gt (.bf "abs" (.cons (.call "reckoned" (.cons (.v 0) (.cons (.v 1) .nil))) .nil)) (.g "MOST_NUMBER")))) .nil)
theorem s_is_too_great : FnScope N_is_too_great ["word", "popped"] (defScope (topS 20)) := ⟨rfl, rfl, rfl, by decide +kernel, rfl, by decide +kernel, by decide +kernel⟩
theorem m_is_too_great : R.mtSl N_is_too_great (defScope (topS 20)) b_is_too_great (defBody (topS 20)) = true := by decide +kernel
def N_is_full : List Str := ["word", "frames", "own", "stack"]
def b_is_full : R.SL := (.cons (.unp [2, 3] (.sl (.ix (.v 1) (.neg (.k (.int 1)))) (.so (.k (.int 2))) .no)) (.cons (.mat 0 (.cons (.one ["num", "get", "fun"]) .no (.cons (.ret (.cmp .GtE (.bf "len" (.cons (.v 3) .nil)) (.g "MOST_VALUES"))) .nil) (.cons (.one ["keep"]) .no (.cons (.ret (.cmp .GtE (.bf "len" (.cons (.v 2) .nil)) (.g "MOST_VALUES"))) .nil) (.cons (.one ["back"]) .no (.cons (.ret (.and (.cmp .Gt (.bf "len" (.cons (.v 1) .nil)) (.k (.int 1))) (.cmp .GtE (.bf "len" (.cons (.ix (.ix (.v 1) (.neg (.k (.int 2)))) (.k (.int 3))) .nil)) (.g "MOST_VALUES")))) .nil) .nil)))) (.cons (.ret (.k (.bool false))) .nil)))
theorem s_is_full : FnScope N_is_full ["word", "frames"] (defScope (topS 21)) := ⟨rfl, rfl, rfl, by decide +kernel, rfl, by decide +kernel, by decide +kernel⟩
theorem m_is_full : R.mtSl N_is_full (defScope (topS 21)) b_is_full (defBody (topS 21)) = true := by decide +kernel
def N_stepped : List Str := ["program", "state", "end", "frames", "things", "word", "body", "place", "own", "stack", "instruction", "rest", "popped", "frames_behind", "things_behind", "end_behind", "said"]
def b_stepped : R.SL := (.cons (.unp [2, 3, 4] (.v 1)) (.cons (.ife (.cmp .IsNot (.v 2) (.k .none)) (.cons .unk .nil) .nil) (.cons (.set 5 (.call "stuck_word" (.cons (.v 0) (.cons (.v 3) (.cons (.v 4) .nil))))) (.cons (.ife (.cmp .IsNot (.v 5) (.k .none)) (.cons (.ret (.tup (.cons (.tup (.cons (.tup (.cons (.k (.str "stuck")) (.cons (.v 5) .nil))) (.cons (.bf "list" (.cons (.v 3) .nil)) (.cons (.bf "dict" (.cons (.v 4) .nil)) .nil)))) (.cons (.k .none) .nil)))) .nil) .nil) (.cons (.unp [6, 7, 8, 9] (.ix (.v 3) (.neg (.k (.int 1))))) (.cons (.set 10 (.ix (.ix (.v 0) (.v 6)) (.v 7))) (.cons (.set 11 (.bin .Sub (.bf "len" (.cons (.v 9) .nil)) (.call "popped_by" (.cons (.ix (.v 10) (.k (.int 0))) .nil)))) (.cons (.set 12 (.sl (.v 9) (.so (.v 11)) .no)) (.cons (.frz 12) (.cons (.set 13 (.bin .Add (.sl (.v 3) .no (.so (.neg (.k (.int 1))))) (.lst (.cons (.tup (.cons (.v 6) (.cons (.bin .Add (.v 7) (.k (.int 1))) (.cons (.v 8) (.cons (.sl (.v 9) .no (.so (.v 11))) .nil))))) .nil)))) (.cons (.set 14 (.bf "dict" (.cons (.v 4) .nil))) (.cons (.mc .drop "do_instruction" (.cons (.v 10) (.cons (.v 12) (.cons (.v 13) (.cons (.v 14) .nil))))) (.cons (.set 15 (.ife (.v 13) (.k .none) (.tup (.cons (.k (.str "done")) (.cons (.ix (.v 12) (.k (.int 0))) .nil))))) (.cons (.frz 15) (.cons (.set 16 (.ife (.cmp .Eq (.ix (.v 10) (.k (.int 0))) (.k (.str "say"))) (.call "spoken" (.cons (.ix (.v 12) (.k (.int 0))) (.cons (.v 4) .nil))) (.k .none))) (.cons (.frz 16) (.cons (.frz 13) (.cons (.frz 14) (.cons (.ret (.tup (.cons (.tup (.cons (.v 15) (.cons (.v 13) (.cons (.v 14) .nil)))) (.cons (.v 16) .nil)))) .nil)))))))))))))))))))
theorem s_stepped : FnScope N_stepped ["program", "state"] (defScope (topS 23)) := ⟨rfl, rfl, rfl, by decide +kernel, rfl, by decide +kernel, by decide +kernel⟩
theorem m_stepped : R.mtSl N_stepped (defScope (topS 23)) b_stepped (defBody (topS 23)) = true := by decide +kernel
def N_do_instruction : List Str := ["instruction", "popped", "frames", "things", "n", "k", "f", "numbers", "_", "body", "kept", "p"]
def b_do_instruction : R.SL := (.cons (.mat 0 (.cons (.tup [(.lit ["num"]), (.cap 4)]) .no (.cons (.mc .drop "push" (.cons (.v 2) (.cons (.v 4) .nil))) .nil) (.cons (.tup [(.lit ["get"]), (.cap 5)]) .no (.cons (.mc .drop "push" (.cons (.v 2) (.cons (.ix (.ix (.ix (.v 2) (.neg (.k (.int 1)))) (.k (.int 2))) (.v 5)) .nil))) .nil) (.cons (.tup [(.lit ["keep"])]) .no (.cons (.mc .drop "keep" (.cons (.v 2) (.cons (.ix (.v 1) (.k (.int 0))) .nil))) .nil) (.cons (.tup [(.lit ["add", "minus", "times", "less", "same"])]) .no (.cons (.mc .drop "push" (.cons (.v 2) (.cons (.call "reckoned" (.cons (.ix (.v 0) (.k (.int 0))) (.cons (.v 1) .nil))) .nil))) .nil) (.cons (.tup [(.lit ["box"])]) .no (.cons (.mc .drop "push_new" (.cons (.v 2) (.cons (.v 3) (.cons (.tup (.cons (.k (.str "box")) (.cons (.ix (.v 1) (.k (.int 0))) .nil))) .nil)))) .nil) (.cons (.tup [(.lit ["open"])]) .no (.cons (.mc .drop "push" (.cons (.v 2) (.cons (.ix (.ix (.v 3) (.ix (.ix (.v 1) (.k (.int 0))) (.k (.int 1)))) (.k (.int 1))) .nil))) .nil) (.cons (.tup [(.lit ["fill"])]) .no (.cons (.sti 3 (.ix (.ix (.v 1) (.k (.int 0))) (.k (.int 1))) (.tup (.cons (.k (.str "box")) (.cons (.ix (.v 1) (.k (.int 1))) .nil)))) .nil) (.cons (.tup [(.lit ["fun"]), (.cap 6), (.cap 7)]) .no (.cons (.mc .drop "push_new" (.cons (.v 2) (.cons (.v 3) (.cons (.tup (.cons (.k (.str "fun")) (.cons (.v 6) (.cons (.call "own_values" (.cons (.v 2) (.cons (.v 7) .nil))) .nil)))) .nil)))) .nil) (.cons (.tup [(.lit ["call"])]) .no (.cons (.unp [8, 9, 10] (.ix (.v 3) (.ix (.ix (.v 1) (.k (.int 0))) (.k (.int 1))))) (.cons (.app 2 (.tup (.cons (.v 9) (.cons (.k (.int 0)) (.cons (.bin .Add (.v 10) (.tup (.cons (.ix (.v 1) (.k (.int 1))) .nil))) (.cons (.tup .nil) .nil)))))) .nil)) (.cons (.tup [(.lit ["back"])]) .no (.cons (.pop 2) (.cons (.ife (.v 2) (.cons (.mc .drop "push" (.cons (.v 2) (.cons (.ix (.v 1) (.k (.int 0))) .nil))) .nil) .nil) .nil)) (.cons (.tup [(.lit ["jump"]), (.cap 11)]) .no (.cons (.mc .drop "go" (.cons (.v 2) (.cons (.v 11) .nil))) .nil) (.cons (.tup [(.lit ["unless"]), (.cap 11)]) (.so (.cmp .Eq (.ix (.v 1) (.k (.int 0))) (.k (.int 0)))) (.cons (.mc .drop "go" (.cons (.v 2) (.cons (.v 11) .nil))) .nil) .nil))))))))))))) .nil)
theorem s_do_instruction : FnScope N_do_instruction ["instruction", "popped", "frames", "things"] (defScope (topS 24)) := ⟨rfl, rfl, rfl, by decide +kernel, rfl, by decide +kernel, by decide +kernel⟩
theorem m_do_instruction : R.mtSl N_do_instruction (defScope (topS 24)) b_do_instruction (defBody (topS 24)) = true := by decide +kernel
def N_push : List Str := ["frames", "value", "body", "place", "own", "stack"]
def b_push : R.SL := (.cons (.unp [2, 3, 4, 5] (.ix (.v 0) (.neg (.k (.int 1))))) (.cons (.sti 0 (.neg (.k (.int 1))) (.tup (.cons (.v 2) (.cons (.v 3) (.cons (.v 4) (.cons (.bin .Add (.v 5) (.tup (.cons (.v 1) .nil))) .nil)))))) .nil))
theorem s_push : FnScope N_push ["frames", "value"] (defScope (topS 25)) := ⟨rfl, rfl, rfl, by decide +kernel, rfl, by decide +kernel, by decide +kernel⟩
theorem m_push : R.mtSl N_push (defScope (topS 25)) b_push (defBody (topS 25)) = true := by decide +kernel
def N_push_new : List Str := ["frames", "things", "thing", "number"]
def b_push_new : R.SL := (.cons (.set 3 (.call "new_number" (.cons (.v 1) .nil))) (.cons (.sti 1 (.v 3) (.v 2)) (.cons (.mc .drop "push" (.cons (.v 0) (.cons (.tup (.cons (.k (.str "at")) (.cons (.v 3) .nil))) .nil))) .nil)))
theorem s_push_new : FnScope N_push_new ["frames", "things", "thing"] (defScope (topS 26)) := ⟨rfl, rfl, rfl, by decide +kernel, rfl, by decide +kernel, by decide +kernel⟩
theorem m_push_new : R.mtSl N_push_new (defScope (topS 26)) b_push_new (defBody (topS 26)) = true := by decide +kernel
def N_keep : List Str := ["frames", "value", "body", "place", "own", "stack"]
def b_keep : R.SL := (.cons (.unp [2, 3, 4, 5] (.ix (.v 0) (.neg (.k (.int 1))))) (.cons (.sti 0 (.neg (.k (.int 1))) (.tup (.cons (.v 2) (.cons (.v 3) (.cons (.bin .Add (.v 4) (.tup (.cons (.v 1) .nil))) (.cons (.v 5) .nil)))))) .nil))
theorem s_keep : FnScope N_keep ["frames", "value"] (defScope (topS 27)) := ⟨rfl, rfl, rfl, by decide +kernel, rfl, by decide +kernel, by decide +kernel⟩
theorem m_keep : R.mtSl N_keep (defScope (topS 27)) b_keep (defBody (topS 27)) = true := by decide +kernel
def N_go : List Str := ["frames", "place", "body", "_", "own", "stack"]
def b_go : R.SL := (.cons (.unp [2, 3, 4, 5] (.ix (.v 0) (.neg (.k (.int 1))))) (.cons (.sti 0 (.neg (.k (.int 1))) (.tup (.cons (.v 2) (.cons (.v 1) (.cons (.v 4) (.cons (.v 5) .nil)))))) .nil))
theorem s_go : FnScope N_go ["frames", "place"] (defScope (topS 28)) := ⟨rfl, rfl, rfl, by decide +kernel, rfl, by decide +kernel, by decide +kernel⟩
theorem m_go : R.mtSl N_go (defScope (topS 28)) b_go (defBody (topS 28)) = true := by decide +kernel
def N_own_values : List Str := ["frames", "numbers", "own", "number"]
def b_own_values : R.SL := (.cons (.set 2 (.ix (.ix (.v 0) (.neg (.k (.int 1)))) (.k (.int 2)))) (.cons .unk .nil))
theorem s_own_values : FnScope N_own_values ["frames", "numbers"] (defScope (topS 29)) := ⟨rfl, rfl, rfl, by decide +kernel, rfl, by decide +kernel, by decide +kernel⟩
theorem m_own_values : R.mtSl N_own_values (defScope (topS 29)) b_own_values (defBody (topS 29)) = true := by decide +kernel
def N__law_cell : List Str := ["_law_script", "_law_k", "_law_mixed", "_law_size"]
def b__law_cell : R.SL := (.cons (.set 2 (.bin .Mult (.v 1) (.k (.int 7919)))) (.cons (.set 3 (.bf "len" (.cons (.v 0) .nil))) (.cons (.ife (.cmp .Gt (.v 3) (.k (.int 0))) (.cons (.set 2 (.bin .Add (.bin .Add (.bin .Mult (.ix (.v 0) (.bin .Mod (.v 1) (.v 3))) (.k (.int 48271))) (.v 2)) (.bin .Mult (.bin .FloorDiv (.v 1) (.v 3)) (.k (.int 104729))))) (.cons (.frz 2) .nil)) .nil) (.cons (.set 2 (.bin .Mod (.v 2) (.k (.int 1000003)))) (.cons (.ret (.bin .Mod (.bin .Mult (.v 2) (.bin .Add (.bin .Add (.v 2) (.bin .Mult (.k (.int 2)) (.v 1))) (.k (.int 17)))) (.k (.int 1000003)))) .nil)))))
theorem s__law_cell : FnScope N__law_cell ["_law_script", "_law_k"] (defScope (topS 31)) := ⟨rfl, rfl, rfl, by decide +kernel, rfl, by decide +kernel, by decide +kernel⟩
theorem m__law_cell : R.mtSl N__law_cell (defScope (topS 31)) b__law_cell (defBody (topS 31)) = true := by decide +kernel
def N__law_raw : List Str := ["_law_script", "_law_k"]
def b__law_raw : R.SL := (.cons (.ife (.cmp .Eq (.bf "len" (.cons (.v 0) .nil)) (.k (.int 0))) (.cons (.ret (.bin .Mult (.v 1) (.k (.int 7919)))) .nil) .nil) (.cons (.ret (.bin .Add (.ix (.v 0) (.bin .Mod (.v 1) (.bf "len" (.cons (.v 0) .nil)))) (.bin .Mult (.bin .FloorDiv (.v 1) (.bf "len" (.cons (.v 0) .nil))) (.k (.int 104729))))) .nil))
theorem s__law_raw : FnScope N__law_raw ["_law_script", "_law_k"] (defScope (topS 32)) := ⟨rfl, rfl, rfl, by decide +kernel, rfl, by decide +kernel, by decide +kernel⟩
theorem m__law_raw : R.mtSl N__law_raw (defScope (topS 32)) b__law_raw (defBody (topS 32)) = true := by decide +kernel
def N__law_whole : List Str := ["_law_found"]
def b__law_whole : R.SL := (.cons (.ret (.and (.isi (.v 0) ["int"] true) (.not (.isi (.v 0) ["bool"] true)))) .nil)
theorem s__law_whole : FnScope N__law_whole ["_law_found"] (defScope (topS 33)) := ⟨rfl, rfl, rfl, by decide +kernel, rfl, by decide +kernel, by decide +kernel⟩
theorem m__law_whole : R.mtSl N__law_whole (defScope (topS 33)) b__law_whole (defBody (topS 33)) = true := by decide +kernel
def N__law_number : List Str := ["_law_script", "_law_k", "_law_cell_here"]
def b__law_number : R.SL := (.cons (.set 2 (.call "_law_cell" (.cons (.v 0) (.cons (.v 1) .nil)))) (.cons (.ife (.cmp .Eq (.bin .Mod (.v 2) (.k (.int 6))) (.k (.int 1))) (.cons (.ret (.bin .Sub (.bin .Mod (.call "_law_raw" (.cons (.v 0) (.cons (.v 1) .nil))) (.bin .Add (.bin .Mult (.k (.int 2)) (.bin .Pow (.k (.int 10)) (.k (.int 30)))) (.k (.int 1)))) (.bin .Pow (.k (.int 10)) (.k (.int 30))))) .nil) .nil) (.cons (.ife (.cmp .Eq (.bin .Mod (.v 2) (.k (.int 6))) (.k (.int 2))) (.cons (.ret (.ix (.lst (.cons (.bin .Pow (.k (.int 10)) (.k (.int 30))) (.cons (.bin .Sub (.k (.int 0)) (.bin .Pow (.k (.int 10)) (.k (.int 30)))) (.cons (.bin .Sub (.bin .Pow (.k (.int 10)) (.k (.int 30))) (.k (.int 1))) (.cons (.k (.int 0)) (.cons (.bin .Pow (.k (.int 10)) (.k (.int 15))) (.cons (.bin .Sub (.bin .Sub (.k (.int 0)) (.bin .Pow (.k (.int 10)) (.k (.int 15)))) (.k (.int 1))) .nil))))))) (.bin .Mod (.bin .FloorDiv (.v 2) (.k (.int 6))) (.k (.int 6))))) .nil) .nil) (.cons (.ret (.bin .Sub (.bin .Mod (.bin .FloorDiv (.v 2) (.k (.int 6))) (.k (.int 7))) (.k (.int 3)))) .nil))))
theorem s__law_number : FnScope N__law_number ["_law_script", "_law_k"] (defScope (topS 34)) := ⟨rfl, rfl, rfl, by decide +kernel, rfl, by decide +kernel, by decide +kernel⟩
theorem m__law_number : R.mtSl N__law_number (defScope (topS 34)) b__law_number (defBody (topS 34)) = true := by decide +kernel
def N__law_value : List Str := ["_law_script", "_law_k", "_law_names_here", "_law_cell_here"]
def b__law_value : R.SL := (.cons (.set 3 (.call "_law_cell" (.cons (.v 0) (.cons (.bin .Add (.v 1) (.k (.int 3))) .nil)))) (.cons (.ife (.and (.cmp .NotEq (.v 2) (.lst .nil)) (.cmp .Lt (.bin .Mod (.v 3) (.k (.int 5))) (.k (.int 2)))) (.cons (.ret (.tup (.cons (.k (.str "at")) (.cons (.ix (.v 2) (.bin .Mod (.bin .FloorDiv (.v 3) (.k (.int 5))) (.bf "len" (.cons (.v 2) .nil)))) .nil)))) .nil) .nil) (.cons (.ret (.call "_law_number" (.cons (.v 0) (.cons (.v 1) .nil)))) .nil)))
theorem s__law_value : FnScope N__law_value ["_law_script", "_law_k", "_law_names_here"] (defScope (topS 35)) := ⟨rfl, rfl, rfl, by decide +kernel, rfl, by decide +kernel, by decide +kernel⟩
theorem m__law_value : R.mtSl N__law_value (defScope (topS 35)) b__law_value (defBody (topS 35)) = true := by decide +kernel
def N__law_values : List Str := ["_law_script", "_law_k", "_law_many", "_law_names_here", "_law_j"]
def b__law_values : R.SL := (.cons (.ret (.bf "tuple" (.cons (.lc 4 (.r (.v 2)) .no (.call "_law_value" (.cons (.v 0) (.cons (.bin .Add (.v 1) (.bin .Mult (.k (.int 11)) (.v 4))) (.cons (.v 3) .nil))))) .nil))) .nil)
theorem s__law_values : FnScope N__law_values ["_law_script", "_law_k", "_law_many", "_law_names_here"] (defScope (topS 36)) := ⟨rfl, rfl, rfl, by decide +kernel, rfl, by decide +kernel, by decide +kernel⟩
theorem m__law_values : R.mtSl N__law_values (defScope (topS 36)) b__law_values (defBody (topS 36)) = true := by decide +kernel
def N__law_names : List Str := ["_law_script", "_law_cell_here", "_law_many", "_law_step", "_law_names_here", "_law_j"]
def b__law_names : R.SL := (.cons (.set 1 (.call "_law_cell" (.cons (.v 0) (.cons (.k (.int 1)) .nil)))) (.cons (.set 2 (.bin .Mod (.v 1) (.k (.int 7)))) (.cons (.ife (.cmp .Eq (.bin .Mod (.bin .FloorDiv (.v 1) (.k (.int 7))) (.k (.int 16))) (.k (.int 1))) (.cons (.set 2 (.ix (.lst (.cons (.k (.int 40)) (.cons (.k (.int 40)) (.cons (.k (.int 40)) (.cons (.k (.int 130)) .nil))))) (.bin .Mod (.bin .FloorDiv (.v 1) (.k (.int 112))) (.k (.int 4))))) .nil) .nil) (.cons (.set 3 (.bin .Add (.k (.int 1)) (.bin .Mod (.bin .FloorDiv (.v 1) (.k (.int 112))) (.k (.int 5))))) (.cons (.frz 3) (.cons (.set 4 (.lc 5 (.r (.v 2)) .no (.bin .Add (.bin .Mod (.bin .FloorDiv (.v 1) (.k (.int 560))) (.k (.int 30))) (.bin .Mult (.v 3) (.v 5))))) (.cons (.ife (.cmp .Eq (.bin .Mod (.bin .FloorDiv (.v 1) (.k (.int 16800))) (.k (.int 2))) (.k (.int 1))) (.cons (.rev 4) .nil) .nil) (.cons (.ret (.v 4)) .nil))))))))
theorem s__law_names : FnScope N__law_names ["_law_script"] (defScope (topS 37)) := ⟨rfl, rfl, rfl, by decide +kernel, rfl, by decide +kernel, by decide +kernel⟩
theorem m__law_names : R.mtSl N__law_names (defScope (topS 37)) b__law_names (defBody (topS 37)) = true := by decide +kernel
def N__law_things : List Str := ["_law_script", "_law_names_here", "_law_bodies", "_law_things_here", "_law_j", "_law_cell_here", "_law_kept"]
def b__law_things : R.SL := (.cons (.set 3 .dnew) (.cons (.for1 4 (.r (.bf "len" (.cons (.v 1) .nil))) (.cons (.set 5 (.call "_law_cell" (.cons (.v 0) (.cons (.bin .Add (.k (.int 100)) (.v 4)) .nil)))) (.cons (.ife (.cmp .Eq (.bin .Mod (.v 5) (.k (.int 2))) (.k (.int 0))) (.cons (.sti 3 (.ix (.v 1) (.v 4)) (.tup (.cons (.k (.str "box")) (.cons (.call "_law_value" (.cons (.v 0) (.cons (.bin .Add (.k (.int 200)) (.v 4)) (.cons (.v 1) .nil)))) .nil)))) .nil) (.cons (.set 6 (.call "_law_values" (.cons (.v 0) (.cons (.bin .Add (.k (.int 300)) (.bin .Mult (.k (.int 5)) (.v 4))) (.cons (.bin .Mod (.bin .FloorDiv (.v 5) (.k (.int 2))) (.k (.int 9))) (.cons (.v 1) .nil)))))) (.cons (.sti 3 (.ix (.v 1) (.v 4)) (.tup (.cons (.k (.str "fun")) (.cons (.bin .Mod (.bin .FloorDiv (.v 5) (.k (.int 18))) (.v 2)) (.cons (.v 6) .nil))))) .nil))) .nil))) (.cons (.ret (.v 3)) .nil)))
theorem s__law_things : FnScope N__law_things ["_law_script", "_law_names_here", "_law_bodies"] (defScope (topS 38)) := ⟨rfl, rfl, rfl, by decide +kernel, rfl, by decide +kernel, by decide +kernel⟩
theorem m__law_things : R.mtSl N__law_things (defScope (topS 38)) b__law_things (defBody (topS 38)) = true := by decide +kernel
def N__law_frame : List Str := ["_law_script", "_law_k", "_law_program_here", "_law_names_here", "_law_cell_here", "_law_body", "_law_own", "_law_stack"]
def b__law_frame : R.SL := (.cons (.set 4 (.call "_law_cell" (.cons (.v 0) (.cons (.v 1) .nil)))) (.cons (.set 5 (.bin .Mod (.v 4) (.bf "len" (.cons (.v 2) .nil)))) (.cons (.set 6 (.call "_law_values" (.cons (.v 0) (.cons (.bin .Add (.v 1) (.k (.int 1))) (.cons (.bin .Mod (.bin .FloorDiv (.v 4) (.k (.int 20))) (.k (.int 5))) (.cons (.v 3) .nil)))))) (.cons (.set 7 (.call "_law_values" (.cons (.v 0) (.cons (.bin .Add (.v 1) (.k (.int 2))) (.cons (.bin .Mod (.bin .FloorDiv (.v 4) (.k (.int 100))) (.k (.int 5))) (.cons (.v 3) .nil)))))) (.cons (.ife (.cmp .Eq (.bin .Mod (.bin .FloorDiv (.v 4) (.k (.int 500))) (.k (.int 32))) (.k (.int 1))) (.cons (.set 6 (.sl (.bin .Add (.v 6) (.call "_law_values" (.cons (.v 0) (.cons (.bin .Add (.v 1) (.k (.int 5))) (.cons (.k (.int 60)) (.cons (.v 3) .nil)))))) .no (.so (.k (.int 60))))) (.cons (.frz 6) .nil)) .nil) (.cons (.ife (.cmp .Eq (.bin .Mod (.bin .FloorDiv (.v 4) (.k (.int 500))) (.k (.int 32))) (.k (.int 2))) (.cons (.set 7 (.sl (.bin .Add (.v 7) (.call "_law_values" (.cons (.v 0) (.cons (.bin .Add (.v 1) (.k (.int 5))) (.cons (.k (.int 60)) (.cons (.v 3) .nil)))))) .no (.so (.k (.int 60))))) (.cons (.frz 7) .nil)) .nil) (.cons (.ret (.tup (.cons (.v 5) (.cons (.bin .Mod (.bin .FloorDiv (.v 4) (.k (.int 16000))) (.bin .Add (.bf "len" (.cons (.ix (.v 2) (.v 5)) .nil)) (.k (.int 1)))) (.cons (.v 6) (.cons (.v 7) .nil)))))) .nil)))))))
theorem s__law_frame : FnScope N__law_frame ["_law_script", "_law_k", "_law_program_here", "_law_names_here"] (defScope (topS 39)) := ⟨rfl, rfl, rfl, by decide +kernel, rfl, by decide +kernel, by decide +kernel⟩
theorem m__law_frame : R.mtSl N__law_frame (defScope (topS 39)) b__law_frame (defBody (topS 39)) = true := by decide +kernel
def N__law_frames : List Str := ["_law_script", "_law_program_here", "_law_names_here", "_law_cell_here", "_law_many", "_law_j"]
def b__law_frames : R.SL := (.cons (.set 3 (.call "_law_cell" (.cons (.v 0) (.cons (.k (.int 2)) .nil)))) (.cons (.set 4 (.bin .Add (.k (.int 1)) (.bin .Mod (.v 3) (.k (.int 3))))) (.cons (.frz 4) (.cons (.ife (.cmp .Eq (.bin .Mod (.bin .FloorDiv (.v 3) (.k (.int 3))) (.k (.int 16))) (.k (.int 1))) (.cons (.set 4 (.bin .Add (.k (.int 59)) (.bin .Mod (.bin .FloorDiv (.v 3) (.k (.int 48))) (.k (.int 2))))) (.cons (.frz 4) .nil)) .nil) (.cons (.ret (.lc 5 (.r (.v 4)) .no (.call "_law_frame" (.cons (.v 0) (.cons (.bin .Add (.k (.int 500)) (.bin .Mult (.k (.int 13)) (.v 5))) (.cons (.v 1) (.cons (.v 2) .nil))))))) .nil)))))
theorem s__law_frames : FnScope N__law_frames ["_law_script", "_law_program_here", "_law_names_here"] (defScope (topS 40)) := ⟨rfl, rfl, rfl, by decide +kernel, rfl, by decide +kernel, by decide +kernel⟩
theorem m__law_frames : R.mtSl N__law_frames (defScope (topS 40)) b__law_frames (defBody (topS 40)) = true := by decide +kernel
def N__law_row : List Str := ["_law_script", "_law_k", "_law_words", "_law_bodies", "_law_size", "_law_cell_here", "_law_word", "_law_more", "_law_far", "_law_kept", "_law_j"]
def b__law_row : R.SL := (.cons (.set 5 (.call "_law_cell" (.cons (.v 0) (.cons (.v 1) .nil)))) (.cons (.set 6 (.ix (.v 2) (.bin .Mod (.v 5) (.bf "len" (.cons (.v 2) .nil))))) (.cons (.set 7 (.bin .FloorDiv (.v 5) (.bf "len" (.cons (.v 2) .nil)))) (.cons (.ife (.cmp .Eq (.v 6) (.k (.str "num"))) (.cons (.set 8 (.bin .Sub (.bin .Mod (.call "_law_raw" (.cons (.v 0) (.cons (.v 1) .nil))) (.bin .Add (.bin .Mult (.k (.int 2)) (.bin .Pow (.k (.int 10)) (.k (.int 12)))) (.k (.int 1)))) (.bin .Pow (.k (.int 10)) (.k (.int 12))))) (.cons (.ret (.tup (.cons (.k (.str "num")) (.cons (.ix (.lst (.cons (.bin .Sub (.bin .Mod (.v 7) (.k (.int 19))) (.k (.int 9))) (.cons (.v 8) .nil))) (.bin .Mod (.bin .FloorDiv (.v 7) (.k (.int 19))) (.k (.int 2)))) .nil)))) .nil)) .nil) (.cons (.ife (.cmp .Eq (.v 6) (.k (.str "get"))) (.cons (.ret (.tup (.cons (.k (.str "get")) (.cons (.ix (.lst (.cons (.bin .Mod (.v 7) (.k (.int 5))) (.cons (.bin .Mod (.bin .FloorDiv (.v 7) (.k (.int 5))) (.k (.int 60))) .nil))) (.bf "int" (.cons (.cmp .Eq (.bin .Mod (.bin .FloorDiv (.v 7) (.k (.int 300))) (.k (.int 8))) (.k (.int 1))) .nil))) .nil)))) .nil) .nil) (.cons (.ife (.cmp .Eq (.v 6) (.k (.str "fun"))) (.cons (.set 8 (.ix (.lst (.cons (.k (.int 5)) (.cons (.k (.int 60)) .nil))) (.bf "int" (.cons (.cmp .Eq (.bin .Mod (.bin .FloorDiv (.v 7) (.k (.int 9))) (.k (.int 16))) (.k (.int 1))) .nil)))) (.cons (.set 9 (.bf "tuple" (.cons (.lc 10 (.r (.bin .Mod (.v 7) (.k (.int 9)))) .no (.bin .Mod (.call "_law_cell" (.cons (.v 0) (.cons (.bin .Add (.bin .Add (.v 1) (.k (.int 17))) (.v 10)) .nil))) (.v 8))) .nil))) (.cons (.ret (.tup (.cons (.k (.str "fun")) (.cons (.bin .Mod (.bin .FloorDiv (.v 7) (.k (.int 144))) (.v 3)) (.cons (.v 9) .nil))))) .nil))) .nil) (.cons (.ife (.or (.cmp .Eq (.v 6) (.k (.str "jump"))) (.cmp .Eq (.v 6) (.k (.str "unless")))) (.cons (.ret (.tup (.cons (.v 6) (.cons (.bin .Mod (.v 7) (.bin .Add (.v 4) (.k (.int 1)))) .nil)))) .nil) .nil) (.cons (.ret (.tup (.cons (.v 6) .nil))) .nil))))))))
theorem s__law_row : FnScope N__law_row ["_law_script", "_law_k", "_law_words", "_law_bodies", "_law_size"] (defScope (topS 41)) := ⟨rfl, rfl, rfl, by decide +kernel, rfl, by decide +kernel, by decide +kernel⟩
theorem m__law_row : R.mtSl N__law_row (defScope (topS 41)) b__law_row (defBody (topS 41)) = true := by decide +kernel
def N__law_program : List Str := ["_law_script", "_law_words", "_law_cell_here", "_law_bodies", "_law_program_here", "_law_b", "_law_size", "_law_rows", "_law_j"]
def b__law_program : R.SL := (.cons (.set 2 (.call "_law_cell" (.cons (.v 0) (.cons (.k (.int 0)) .nil)))) (.cons (.set 3 (.bin .Add (.k (.int 1)) (.bin .Mod (.v 2) (.k (.int 3))))) (.cons (.frz 3) (.cons (.ife (.cmp .Eq (.bin .Mod (.bin .FloorDiv (.v 2) (.k (.int 3))) (.k (.int 16))) (.k (.int 1))) (.cons (.set 3 (.k (.int 20))) .nil) .nil) (.cons (.set 4 (.lst .nil)) (.cons (.for1 5 (.r (.v 3)) (.cons (.set 6 (.bin .Mod (.call "_law_cell" (.cons (.v 0) (.cons (.bin .Add (.k (.int 20)) (.v 5)) .nil))) (.k (.int 7)))) (.cons (.ife (.cmp .Eq (.bin .Mod (.bin .FloorDiv (.call "_law_cell" (.cons (.v 0) (.cons (.bin .Add (.k (.int 20)) (.v 5)) .nil))) (.k (.int 7))) (.k (.int 32))) (.k (.int 1))) (.cons (.set 6 (.k (.int 60))) .nil) .nil) (.cons (.set 7 (.lc 8 (.r (.v 6)) .no (.call "_law_row" (.cons (.v 0) (.cons (.bin .Add (.bin .Add (.k (.int 1000)) (.bin .Mult (.k (.int 61)) (.v 5))) (.v 8)) (.cons (.v 1) (.cons (.v 3) (.cons (.v 6) .nil)))))))) (.cons (.frz 7) (.cons (.app 4 (.v 7)) .nil)))))) (.cons (.ret (.v 4)) .nil)))))))
theorem s__law_program : FnScope N__law_program ["_law_script", "_law_words"] (defScope (topS 42)) := ⟨rfl, rfl, rfl, by decide +kernel, rfl, by decide +kernel, by decide +kernel⟩
theorem m__law_program : R.mtSl N__law_program (defScope (topS 42)) b__law_program (defBody (topS 42)) = true := by decide +kernel
def N__law_state : List Str := ["_law_script", "_law_program_here", "_law_names_here"]
def b__law_state : R.SL := (.cons (.set 2 (.call "_law_names" (.cons (.v 0) .nil))) (.cons (.ret (.tup (.cons (.k .none) (.cons (.call "_law_frames" (.cons (.v 0) (.cons (.v 1) (.cons (.v 2) .nil)))) (.cons (.call "_law_things" (.cons (.v 0) (.cons (.v 2) (.cons (.bf "len" (.cons (.v 1) .nil)) .nil)))) .nil))))) .nil))
theorem s__law_state : FnScope N__law_state ["_law_script", "_law_program_here"] (defScope (topS 43)) := ⟨rfl, rfl, rfl, by decide +kernel, rfl, by decide +kernel, by decide +kernel⟩
theorem m__law_state : R.mtSl N__law_state (defScope (topS 43)) b__law_state (defBody (topS 43)) = true := by decide +kernel
def N__law_topped : List Str := ["_law_script", "_law_program_here", "_law_state_here", "_law_words", "_law_frame_here", "_law_body", "_law_place", "_law_row_here"]
def b__law_topped : R.SL := (.cons (.set 4 (.ix (.ix (.v 2) (.k (.int 1))) (.neg (.k (.int 1))))) (.cons (.set 5 (.ix (.v 1) (.ix (.v 4) (.k (.int 0))))) (.cons (.set 6 (.bf "min" (.cons (.ix (.v 4) (.k (.int 1))) (.cons (.k (.int 59)) .nil)))) (.cons (.set 7 (.call "_law_row" (.cons (.v 0) (.cons (.k (.int 7)) (.cons (.v 3) (.cons (.bf "len" (.cons (.v 1) .nil)) (.cons (.bf "max" (.cons (.bf "len" (.cons (.v 5) .nil)) (.cons (.bin .Add (.v 6) (.k (.int 1))) .nil))) .nil))))))) (.cons (.sti 1 (.ix (.v 4) (.k (.int 0))) (.bin .Add (.bin .Add (.sl (.v 5) .no (.so (.v 6))) (.lst (.cons (.v 7) .nil))) (.sl (.v 5) (.so (.bin .Add (.v 6) (.k (.int 1)))) .no))) (.cons (.ret (.tup (.cons (.k .none) (.cons (.bin .Add (.sl (.ix (.v 2) (.k (.int 1))) .no (.so (.neg (.k (.int 1))))) (.lst (.cons (.tup (.cons (.ix (.v 4) (.k (.int 0))) (.cons (.v 6) (.cons (.ix (.v 4) (.k (.int 2))) (.cons (.ix (.v 4) (.k (.int 3))) .nil))))) .nil))) (.cons (.ix (.v 2) (.k (.int 2))) .nil))))) .nil))))))
theorem s__law_topped : FnScope N__law_topped ["_law_script", "_law_program_here", "_law_state_here", "_law_words"] (defScope (topS 44)) := ⟨rfl, rfl, rfl, by decide +kernel, rfl, by decide +kernel, by decide +kernel⟩
theorem m__law_topped : R.mtSl N__law_topped (defScope (topS 44)) b__law_topped (defBody (topS 44)) = true := by decide +kernel
def N__law_alike : List Str := ["_law_found", "_law_due_here", "_law_k"]
def b__law_alike : R.SL := (.cons (.ife (.isi (.v 1) ["tuple", "list"] false) (.cons (.ife (.cmp .NotEq (.isi (.v 0) ["tuple"] true) (.isi (.v 1) ["tuple"] true)) (.cons (.ret (.k (.bool false))) .nil) .nil) (.cons (.ife (.or (.not (.isi (.v 0) ["tuple", "list"] false)) (.cmp .NotEq (.bf "len" (.cons (.v 0) .nil)) (.bf "len" (.cons (.v 1) .nil)))) (.cons (.ret (.k (.bool false))) .nil) .nil) (.cons (.ret (.bf "all" (.cons (.lc 2 (.r (.bf "len" (.cons (.v 1) .nil))) .no (.call "_law_alike" (.cons (.ix (.v 0) (.v 2)) (.cons (.ix (.v 1) (.v 2)) .nil)))) .nil))) .nil))) .nil) (.cons (.ife (.isi (.v 1) ["str"] true) (.cons (.ret (.and (.isi (.v 0) ["str"] true) (.cmp .Eq (.v 0) (.v 1)))) .nil) .nil) (.cons (.ife (.cmp .Is (.v 1) (.k .none)) (.cons (.ret (.cmp .Is (.v 0) (.k .none))) .nil) .nil) (.cons (.ret (.and (.call "_law_whole" (.cons (.v 0) .nil)) (.cmp .Eq (.v 0) (.v 1)))) .nil))))
theorem s__law_alike : FnScope N__law_alike ["_law_found", "_law_due_here"] (defScope (topS 45)) := ⟨rfl, rfl, rfl, by decide +kernel, rfl, by decide +kernel, by decide +kernel⟩
theorem m__law_alike : R.mtSl N__law_alike (defScope (topS 45)) b__law_alike (defBody (topS 45)) = true := by decide +kernel
def N__law_same_things : List Str := ["_law_found", "_law_due_here", "_law_number_here"]
def b__law_same_things : R.SL := (.cons (.ife (.or (.not (.isi (.v 0) ["dict"] true)) (.cmp .NotEq (.bf "len" (.cons (.v 0) .nil)) (.bf "len" (.cons (.v 1) .nil)))) (.cons (.ret (.k (.bool false))) .nil) .nil) (.cons (.for1 2 (.l (.bf "list" (.cons (.v 0) .nil))) (.cons (.ife (.or (.not (.call "_law_whole" (.cons (.v 2) .nil))) (.cmp .NotIn (.v 2) (.v 1))) (.cons (.ret (.k (.bool false))) .nil) .nil) (.cons (.ife (.not (.call "_law_alike" (.cons (.ix (.v 0) (.v 2)) (.cons (.ix (.v 1) (.v 2)) .nil)))) (.cons (.ret (.k (.bool false))) .nil) .nil) .nil))) (.cons (.ret (.k (.bool true))) .nil)))
theorem s__law_same_things : FnScope N__law_same_things ["_law_found", "_law_due_here"] (defScope (topS 46)) := ⟨rfl, rfl, rfl, by decide +kernel, rfl, by decide +kernel, by decide +kernel⟩
theorem m__law_same_things : R.mtSl N__law_same_things (defScope (topS 46)) b__law_same_things (defBody (topS 46)) = true := by decide +kernel
def N__law_same_state : List Str := ["_law_found", "_law_due_here"]
def b__law_same_state : R.SL := (.cons (.ife (.or (.not (.isi (.v 0) ["tuple"] true)) (.or (.cmp .NotEq (.bf "len" (.cons (.v 0) .nil)) (.k (.int 3))) (.not (.isi (.ix (.v 0) (.k (.int 1))) ["list"] true)))) (.cons (.ret (.k (.bool false))) .nil) .nil) (.cons (.ret (.and (.call "_law_alike" (.cons (.ix (.v 0) (.k (.int 0))) (.cons (.ix (.v 1) (.k (.int 0))) .nil))) (.and (.call "_law_alike" (.cons (.ix (.v 0) (.k (.int 1))) (.cons (.ix (.v 1) (.k (.int 1))) .nil))) (.call "_law_same_things" (.cons (.ix (.v 0) (.k (.int 2))) (.cons (.ix (.v 1) (.k (.int 2))) .nil)))))) .nil))
theorem s__law_same_state : FnScope N__law_same_state ["_law_found", "_law_due_here"] (defScope (topS 47)) := ⟨rfl, rfl, rfl, by decide +kernel, rfl, by decide +kernel, by decide +kernel⟩
theorem m__law_same_state : R.mtSl N__law_same_state (defScope (topS 47)) b__law_same_state (defBody (topS 47)) = true := by decide +kernel
def N__law_copy : List Str := ["_law_state_here"]
def b__law_copy : R.SL := (.cons (.ret (.tup (.cons (.ix (.v 0) (.k (.int 0))) (.cons (.bf "list" (.cons (.ix (.v 0) (.k (.int 1))) .nil)) (.cons (.bf "dict" (.cons (.ix (.v 0) (.k (.int 2))) .nil)) .nil))))) .nil)
theorem s__law_copy : FnScope N__law_copy ["_law_state_here"] (defScope (topS 48)) := ⟨rfl, rfl, rfl, by decide +kernel, rfl, by decide +kernel, by decide +kernel⟩
theorem m__law_copy : R.mtSl N__law_copy (defScope (topS 48)) b__law_copy (defBody (topS 48)) = true := by decide +kernel
def N__law_is_box : List Str := ["_law_value_here", "_law_things_here"]
def b__law_is_box : R.SL := (.cons (.ret (.and (.isi (.v 0) ["tuple"] true) (.cmp .Eq (.ix (.ix (.v 1) (.ix (.v 0) (.k (.int 1)))) (.k (.int 0))) (.k (.str "box"))))) .nil)
theorem s__law_is_box : FnScope N__law_is_box ["_law_value_here", "_law_things_here"] (defScope (topS 49)) := ⟨rfl, rfl, rfl, by decide +kernel, rfl, by decide +kernel, by decide +kernel⟩
theorem m__law_is_box : R.mtSl N__law_is_box (defScope (topS 49)) b__law_is_box (defBody (topS 49)) = true := by decide +kernel
def N__law_due : List Str := ["_law_row_here", "_law_state_here", "_law_frame_here", "_law_stack", "_law_things_here", "_law_number_here", "_law_one"]
def b__law_due : R.SL := (.cons (.set 3 (.ix (.v 2) (.k (.int 3)))) (.cons (.ife (.cmp .Lt (.bf "len" (.cons (.v 3) .nil)) (.ix (.lst (.cons (.k (.int 1)) (.cons (.k (.int 2)) .nil))) (.bf "int" (.cons (.cmp .Eq (.ix (.v 0) (.k (.int 0))) (.k (.str "fill"))) .nil)))) (.cons (.ret (.tup (.cons (.tup (.cons (.tup (.cons (.k (.str "stuck")) (.cons (.k (.str "empty")) .nil))) (.cons (.ix (.v 1) (.k (.int 1))) (.cons (.ix (.v 1) (.k (.int 2))) .nil)))) (.cons (.k .none) .nil)))) .nil) .nil) (.cons (.ife (.and (.cmp .Eq (.ix (.v 0) (.k (.int 0))) (.k (.str "open"))) (.not (.call "_law_is_box" (.cons (.ix (.v 3) (.neg (.k (.int 1)))) (.cons (.ix (.v 1) (.k (.int 2))) .nil))))) (.cons (.ret (.tup (.cons (.tup (.cons (.tup (.cons (.k (.str "stuck")) (.cons (.k (.str "kind")) .nil))) (.cons (.ix (.v 1) (.k (.int 1))) (.cons (.ix (.v 1) (.k (.int 2))) .nil)))) (.cons (.k .none) .nil)))) .nil) .nil) (.cons (.ife (.and (.cmp .Eq (.ix (.v 0) (.k (.int 0))) (.k (.str "fill"))) (.not (.call "_law_is_box" (.cons (.ix (.v 3) (.neg (.k (.int 2)))) (.cons (.ix (.v 1) (.k (.int 2))) .nil))))) (.cons (.ret (.tup (.cons (.tup (.cons (.tup (.cons (.k (.str "stuck")) (.cons (.k (.str "kind")) .nil))) (.cons (.ix (.v 1) (.k (.int 1))) (.cons (.ix (.v 1) (.k (.int 2))) .nil)))) (.cons (.k .none) .nil)))) .nil) .nil) (.cons (.set 4 (.bf "dict" (.cons (.ix (.v 1) (.k (.int 2))) .nil))) (.cons (.ife (.cmp .Eq (.ix (.v 0) (.k (.int 0))) (.k (.str "box"))) (.cons (.set 5 (.k (.int 0))) (.cons (.for1 6 (.l (.bf "list" (.cons (.v 4) .nil))) (.cons (.set 5 (.bf "max" (.cons (.v 5) (.cons (.bin .Add (.v 6) (.k (.int 1))) .nil)))) .nil)) (.cons (.sti 4 (.v 5) (.tup (.cons (.k (.str "box")) (.cons (.ix (.v 3) (.neg (.k (.int 1)))) .nil)))) (.cons (.set 3 (.bin .Add (.sl (.v 3) .no (.so (.neg (.k (.int 1))))) (.tup (.cons (.tup (.cons (.k (.str "at")) (.cons (.v 5) .nil))) .nil)))) (.cons (.frz 3) .nil))))) (.cons (.ife (.cmp .Eq (.ix (.v 0) (.k (.int 0))) (.k (.str "open"))) (.cons (.set 3 (.bin .Add (.sl (.v 3) .no (.so (.neg (.k (.int 1))))) (.tup (.cons (.ix (.ix (.v 4) (.ix (.ix (.v 3) (.neg (.k (.int 1)))) (.k (.int 1)))) (.k (.int 1))) .nil)))) (.cons (.frz 3) .nil)) (.cons (.sti 4 (.ix (.ix (.v 3) (.neg (.k (.int 2)))) (.k (.int 1))) (.tup (.cons (.k (.str "box")) (.cons (.ix (.v 3) (.neg (.k (.int 1)))) .nil)))) (.cons (.set 3 (.sl (.v 3) .no (.so (.neg (.k (.int 2)))))) (.cons (.frz 3) .nil)))) .nil)) (.cons (.frz 4) (.cons (.ret (.tup (.cons (.tup (.cons (.k .none) (.cons (.bin .Add (.sl (.ix (.v 1) (.k (.int 1))) .no (.so (.neg (.k (.int 1))))) (.lst (.cons (.tup (.cons (.ix (.v 2) (.k (.int 0))) (.cons (.bin .Add (.ix (.v 2) (.k (.int 1))) (.k (.int 1))) (.cons (.ix (.v 2) (.k (.int 2))) (.cons (.v 3) .nil))))) .nil))) (.cons (.v 4) .nil)))) (.cons (.k .none) .nil)))) .nil))))))))
theorem s__law_due : FnScope N__law_due ["_law_row_here", "_law_state_here", "_law_frame_here"] (defScope (topS 50)) := ⟨rfl, rfl, rfl, by decide +kernel, rfl, by decide +kernel, by decide +kernel⟩
theorem m__law_due : R.mtSl N__law_due (defScope (topS 50)) b__law_due (defBody (topS 50)) = true := by decide +kernel
def N_law : List Str := ["_law_script", "_law_words", "_law_program_here", "_law_state_here", "_law_handed", "_law_given", "_law_found", "_law_frame_here", "_law_due_here", "_law_body"]
def b_law : R.SL := (.cons (.set 1 (.lst (.cons (.k (.str "box")) (.cons (.k (.str "open")) (.cons (.k (.str "fill")) .nil))))) (.cons (.frz 1) (.cons (.set 2 (.call "_law_program" (.cons (.v 0) (.cons (.bin .Add (.v 1) (.lst (.cons (.k (.str "drop")) .nil))) .nil)))) (.cons (.mc (.set 3) "_law_topped" (.cons (.v 0) (.cons (.v 2) (.cons (.call "_law_state" (.cons (.v 0) (.cons (.v 2) .nil))) (.cons (.v 1) .nil))))) (.cons (.set 4 (.call "_law_copy" (.cons (.v 3) .nil))) (.cons (.set 5 (.lc 9 (.l (.v 2)) .no (.bf "list" (.cons (.v 9) .nil)))) (.cons (.frz 5) (.cons (.tl 6 (.call "stepped" (.cons (.v 5) (.cons (.v 4) .nil))) (.tst (.or (.not (.isi (.v 6) ["tuple"] true)) (.or (.cmp .NotEq (.bf "len" (.cons (.v 6) .nil)) (.k (.int 2))) (.or (.cmp .NotEq (.v 5) (.v 2)) (.not (.call "_law_same_state" (.cons (.v 4) (.cons (.v 3) .nil))))))) (.k (.bool false)) (.set 7 (.ix (.ix (.v 3) (.k (.int 1))) (.neg (.k (.int 1)))) (.set 8 (.call "_law_due" (.cons (.ix (.ix (.v 2) (.ix (.v 7) (.k (.int 0)))) (.ix (.v 7) (.k (.int 1)))) (.cons (.v 3) (.cons (.v 7) .nil)))) (.tst (.or (.not (.call "_law_same_state" (.cons (.ix (.v 6) (.k (.int 0))) (.cons (.ix (.v 8) (.k (.int 0))) .nil)))) (.not (.call "_law_alike" (.cons (.ix (.v 6) (.k (.int 1))) (.cons (.ix (.v 8) (.k (.int 1))) .nil))))) (.k (.bool false)) (.wrk true (.k .none) (.and (.call "_law_same_state" (.cons (.v 4) (.cons (.v 3) .nil))) (.call "_law_same_state" (.cons (.ix (.call "stepped" (.cons (.v 5) (.cons (.v 4) .nil))) (.k (.int 0))) (.cons (.ix (.v 8) (.k (.int 0))) .nil)))))))))) .nil))))))))
theorem s_law : FnScope N_law ["_law_script"] (defScope (topS 51)) := ⟨rfl, rfl, rfl, by decide +kernel, rfl, by decide +kernel, by decide +kernel⟩
theorem m_law : R.mtSl N_law (defScope (topS 51)) b_law (defBody (topS 51)) = true := by decide +kernel
end K03RWA
namespace K03RWA
open PySem PySem.Spec PyProof.Rows L2
def mkS (ft : R.FT) (n : Nat) (mu : List Nat) (kd : R.Kd) (N : List Str) (b : R.SL) : R.FSpec := ⟨n, mu, kd, fun ds => R.evDef ft N.length ⟨n, mu, kd, fun _ => none⟩ b ds⟩
def add (ft : R.FT) (x : Str) (s : R.FSpec) : R.FT := { ft with fn := fun y => if y = x then some s else ft.fn y }
def gl0 : Str → Option R.D := fun x => if x = "MOST_FRAMES" then some (.int 60) else if x = "MOST_VALUES" then some (.int 60) else if x = "MOST_NUMBER" then some (.int 1000000000000000000000000000000) else none
def ft_0 : R.FT := ⟨fun _ => none, gl0, false⟩
def kv_POPPED : List (Str × Int) := [("keep", 1), ("drop", 1), ("box", 1), ("open", 1), ("back", 1), ("unless", 1), ("say", 1), ("add", 2), ("minus", 2), ("times", 2), ("less", 2), ("same", 2), ("fill", 2), ("call", 2)]
def sp_is_number : R.FSpec := mkS { ft_0 with ge := false } 1 [] ⟨false, false⟩ N_is_number b_is_number
def ft_1 : R.FT := add ft_0 "is_number" sp_is_number
def sp_thing_of : R.FSpec := mkS { ft_1 with ge := false } 2 [] ⟨false, false⟩ N_thing_of b_thing_of
def ft_2 : R.FT := add ft_1 "thing_of" sp_thing_of
def sp_is_box : R.FSpec := mkS { ft_2 with ge := false } 2 [] ⟨false, false⟩ N_is_box b_is_box
def ft_3 : R.FT := add ft_2 "is_box" sp_is_box
def sp_is_function : R.FSpec := mkS { ft_3 with ge := false } 2 [] ⟨false, false⟩ N_is_function b_is_function
def ft_4 : R.FT := add ft_3 "is_function" sp_is_function
def sp_new_number : R.FSpec := mkS { ft_4 with ge := false } 1 [] ⟨false, true⟩ N_new_number b_new_number
def ft_5 : R.FT := add ft_4 "new_number" sp_new_number
def sp_spoken : R.FSpec := mkS { ft_5 with ge := false } 2 [] ⟨false, false⟩ N_spoken b_spoken
def ft_6 : R.FT := add ft_5 "spoken" sp_spoken
def sp_popped_by : R.FSpec := R.popF kv_POPPED 0
def ft_7 : R.FT := add ft_6 "popped_by" sp_popped_by
def sp_reckoned : R.FSpec := mkS { ft_7 with ge := false } 2 [] ⟨false, false⟩ N_reckoned b_reckoned
def ft_8 : R.FT := add ft_7 "reckoned" sp_reckoned
def sp_lacks_own : R.FSpec := mkS { ft_8 with ge := true } 2 [] ⟨false, false⟩ N_lacks_own b_lacks_own
def ft_9 : R.FT := add ft_8 "lacks_own" sp_lacks_own
def sp_is_wrong_kind : R.FSpec := mkS { ft_9 with ge := true } 3 [] ⟨false, false⟩ N_is_wrong_kind b_is_wrong_kind
def ft_10 : R.FT := add ft_9 "is_wrong_kind" sp_is_wrong_kind
def sp_is_too_great : R.FSpec := mkS { ft_10 with ge := false } 2 [] ⟨false, false⟩ N_is_too_great b_is_too_great
def ft_11 : R.FT := add ft_10 "is_too_great" sp_is_too_great
def sp_is_full : R.FSpec := mkS { ft_11 with ge := false } 2 [] ⟨false, false⟩ N_is_full b_is_full
def ft_12 : R.FT := add ft_11 "is_full" sp_is_full
def sp_stuck_word : R.FSpec := mkS { ft_12 with ge := false } 3 [] ⟨false, false⟩ N_stuck_word b_stuck_word
def ft_13 : R.FT := add ft_12 "stuck_word" sp_stuck_word
def sp_push : R.FSpec := mkS { ft_13 with ge := false } 2 [0] ⟨false, false⟩ N_push b_push
def ft_14 : R.FT := add ft_13 "push" sp_push
def sp_keep : R.FSpec := mkS { ft_14 with ge := false } 2 [0] ⟨false, false⟩ N_keep b_keep
def ft_15 : R.FT := add ft_14 "keep" sp_keep
def sp_push_new : R.FSpec := mkS { ft_15 with ge := false } 3 [0, 1] ⟨false, false⟩ N_push_new b_push_new
def ft_16 : R.FT := add ft_15 "push_new" sp_push_new
def sp_go : R.FSpec := mkS { ft_16 with ge := false } 2 [0] ⟨false, false⟩ N_go b_go
def ft_17 : R.FT := add ft_16 "go" sp_go
def sp_own_values : R.FSpec := mkS { ft_17 with ge := false } 2 [] ⟨false, false⟩ N_own_values b_own_values
def ft_18 : R.FT := add ft_17 "own_values" sp_own_values
def sp_do_instruction : R.FSpec := mkS { ft_18 with ge := false } 4 [2, 3] ⟨false, false⟩ N_do_instruction b_do_instruction
def ft_19 : R.FT := add ft_18 "do_instruction" sp_do_instruction
def sp_stepped : R.FSpec := mkS { ft_19 with ge := false } 2 [] ⟨false, true⟩ N_stepped b_stepped
def ft_20 : R.FT := add ft_19 "stepped" sp_stepped
def sp__law_cell : R.FSpec := mkS { ft_20 with ge := false } 2 [] ⟨false, false⟩ N__law_cell b__law_cell
def ft_21 : R.FT := add ft_20 "_law_cell" sp__law_cell
def sp__law_raw : R.FSpec := mkS { ft_21 with ge := false } 2 [] ⟨false, false⟩ N__law_raw b__law_raw
def ft_22 : R.FT := add ft_21 "_law_raw" sp__law_raw
def sp__law_whole : R.FSpec := mkS { ft_22 with ge := false } 1 [] ⟨false, false⟩ N__law_whole b__law_whole
def ft_23 : R.FT := add ft_22 "_law_whole" sp__law_whole
def sp__law_number : R.FSpec := mkS { ft_23 with ge := false } 2 [] ⟨false, false⟩ N__law_number b__law_number
def ft_24 : R.FT := add ft_23 "_law_number" sp__law_number
def sp__law_value : R.FSpec := mkS { ft_24 with ge := false } 3 [] ⟨false, true⟩ N__law_value b__law_value
def ft_25 : R.FT := add ft_24 "_law_value" sp__law_value
def sp__law_values : R.FSpec := mkS { ft_25 with ge := false } 4 [] ⟨false, true⟩ N__law_values b__law_values
def ft_26 : R.FT := add ft_25 "_law_values" sp__law_values
def sp__law_names : R.FSpec := mkS { ft_26 with ge := false } 1 [] ⟨false, false⟩ N__law_names b__law_names
def ft_27 : R.FT := add ft_26 "_law_names" sp__law_names
def sp__law_things : R.FSpec := mkS { ft_27 with ge := false } 3 [] ⟨true, true⟩ N__law_things b__law_things
def ft_28 : R.FT := add ft_27 "_law_things" sp__law_things
def sp__law_frame : R.FSpec := mkS { ft_28 with ge := false } 4 [] ⟨false, true⟩ N__law_frame b__law_frame
def ft_29 : R.FT := add ft_28 "_law_frame" sp__law_frame
def sp__law_frames : R.FSpec := mkS { ft_29 with ge := false } 3 [] ⟨true, true⟩ N__law_frames b__law_frames
def ft_30 : R.FT := add ft_29 "_law_frames" sp__law_frames
def sp__law_row : R.FSpec := mkS { ft_30 with ge := false } 5 [] ⟨false, false⟩ N__law_row b__law_row
def ft_31 : R.FT := add ft_30 "_law_row" sp__law_row
def sp__law_program : R.FSpec := mkS { ft_31 with ge := false } 2 [] ⟨true, false⟩ N__law_program b__law_program
def ft_32 : R.FT := add ft_31 "_law_program" sp__law_program
def sp__law_state : R.FSpec := mkS { ft_32 with ge := false } 2 [] ⟨false, true⟩ N__law_state b__law_state
def ft_33 : R.FT := add ft_32 "_law_state" sp__law_state
def sp__law_topped : R.FSpec := mkS { ft_33 with ge := false } 4 [1] ⟨false, false⟩ N__law_topped b__law_topped
def ft_34 : R.FT := add ft_33 "_law_topped" sp__law_topped
def sp__law_alike : Nat → R.FSpec
  | 0 => ⟨2, [], ⟨false, false⟩, fun _ => none⟩
  | m + 1 => mkS (add { ft_34 with ge := false } "_law_alike" (sp__law_alike m)) 2 [] ⟨false, false⟩ N__law_alike b__law_alike
def ft_35 : R.FT := add ft_34 "_law_alike" (sp__law_alike 8)
def sp__law_same_things : R.FSpec := mkS { ft_35 with ge := false } 2 [] ⟨false, false⟩ N__law_same_things b__law_same_things
def ft_36 : R.FT := add ft_35 "_law_same_things" sp__law_same_things
def sp__law_same_state : R.FSpec := mkS { ft_36 with ge := false } 2 [] ⟨false, false⟩ N__law_same_state b__law_same_state
def ft_37 : R.FT := add ft_36 "_law_same_state" sp__law_same_state
def sp__law_copy : R.FSpec := mkS { ft_37 with ge := false } 1 [] ⟨false, false⟩ N__law_copy b__law_copy
def ft_38 : R.FT := add ft_37 "_law_copy" sp__law_copy
def sp__law_is_box : R.FSpec := mkS { ft_38 with ge := false } 2 [] ⟨false, false⟩ N__law_is_box b__law_is_box
def ft_39 : R.FT := add ft_38 "_law_is_box" sp__law_is_box
def sp__law_due : R.FSpec := mkS { ft_39 with ge := false } 3 [] ⟨false, false⟩ N__law_due b__law_due
def ft_40 : R.FT := add ft_39 "_law_due" sp__law_due
def sp_law : R.FSpec := mkS { ft_40 with ge := false } 1 [] ⟨false, false⟩ N_law b_law
def ft_41 : R.FT := add ft_40 "law" sp_law
end K03RWA
namespace K03RWA
open PySem PySem.Spec PyProof.Rows L2 R
theorem mkS_F {ft : R.FT} {n : Nat} {mu : List Nat} {kd : R.Kd} {N : List Str} {b : R.SL} {ds : List R.D} {env : R.Env1} (h : startE mu N.length ds = env) : (mkS ft n mu kd N b).F ds = endD ⟨n, mu, kd, fun _ => none⟩ (evSl ft b env) := by
  subst h; rfl
theorem mu_sp_is_number : sp_is_number.mu = [] := Eq.trans rfl rfl
theorem n_sp_is_number : sp_is_number.n = 1 := Eq.trans rfl rfl
theorem kd_sp_is_number : sp_is_number.kd = ⟨false, false⟩ := Eq.trans rfl rfl
theorem un_is_number (a0 : R.D) : sp_is_number.F [a0] = endD ⟨1, [], ⟨false, false⟩, fun _ => none⟩ (evSl { ft_0 with ge := false } b_is_number [.sh false a0]) := mkS_F (ft := { ft_0 with ge := false }) (N := N_is_number) (b := b_is_number) rfl
theorem mu_sp_thing_of : sp_thing_of.mu = [] := Eq.trans rfl rfl
theorem n_sp_thing_of : sp_thing_of.n = 2 := Eq.trans rfl rfl
theorem kd_sp_thing_of : sp_thing_of.kd = ⟨false, false⟩ := Eq.trans rfl rfl
theorem un_thing_of (a0 a1 : R.D) : sp_thing_of.F [a0, a1] = endD ⟨2, [], ⟨false, false⟩, fun _ => none⟩ (evSl { ft_1 with ge := false } b_thing_of [.sh false a0, .sh false a1]) := mkS_F (ft := { ft_1 with ge := false }) (N := N_thing_of) (b := b_thing_of) rfl
theorem mu_sp_is_box : sp_is_box.mu = [] := Eq.trans rfl rfl
theorem n_sp_is_box : sp_is_box.n = 2 := Eq.trans rfl rfl
theorem kd_sp_is_box : sp_is_box.kd = ⟨false, false⟩ := Eq.trans rfl rfl
theorem un_is_box (a0 a1 : R.D) : sp_is_box.F [a0, a1] = endD ⟨2, [], ⟨false, false⟩, fun _ => none⟩ (evSl { ft_2 with ge := false } b_is_box [.sh false a0, .sh false a1, .no]) := mkS_F (ft := { ft_2 with ge := false }) (N := N_is_box) (b := b_is_box) rfl
theorem mu_sp_is_function : sp_is_function.mu = [] := Eq.trans rfl rfl
theorem n_sp_is_function : sp_is_function.n = 2 := Eq.trans rfl rfl
theorem kd_sp_is_function : sp_is_function.kd = ⟨false, false⟩ := Eq.trans rfl rfl
theorem un_is_function (a0 a1 : R.D) : sp_is_function.F [a0, a1] = endD ⟨2, [], ⟨false, false⟩, fun _ => none⟩ (evSl { ft_3 with ge := false } b_is_function [.sh false a0, .sh false a1, .no]) := mkS_F (ft := { ft_3 with ge := false }) (N := N_is_function) (b := b_is_function) rfl
theorem mu_sp_new_number : sp_new_number.mu = [] := Eq.trans rfl rfl
theorem n_sp_new_number : sp_new_number.n = 1 := Eq.trans rfl rfl
theorem kd_sp_new_number : sp_new_number.kd = ⟨false, true⟩ := Eq.trans rfl rfl
theorem un_new_number (a0 : R.D) : sp_new_number.F [a0] = endD ⟨1, [], ⟨false, true⟩, fun _ => none⟩ (evSl { ft_4 with ge := false } b_new_number [.sh false a0]) := mkS_F (ft := { ft_4 with ge := false }) (N := N_new_number) (b := b_new_number) rfl
theorem mu_sp_spoken : sp_spoken.mu = [] := Eq.trans rfl rfl
theorem n_sp_spoken : sp_spoken.n = 2 := Eq.trans rfl rfl
theorem kd_sp_spoken : sp_spoken.kd = ⟨false, false⟩ := Eq.trans rfl rfl
theorem un_spoken (a0 a1 : R.D) : sp_spoken.F [a0, a1] = endD ⟨2, [], ⟨false, false⟩, fun _ => none⟩ (evSl { ft_5 with ge := false } b_spoken [.sh false a0, .sh false a1]) := mkS_F (ft := { ft_5 with ge := false }) (N := N_spoken) (b := b_spoken) rfl
theorem mu_sp_reckoned : sp_reckoned.mu = [] := Eq.trans rfl rfl
theorem n_sp_reckoned : sp_reckoned.n = 2 := Eq.trans rfl rfl
theorem kd_sp_reckoned : sp_reckoned.kd = ⟨false, false⟩ := Eq.trans rfl rfl
theorem un_reckoned (a0 a1 : R.D) : sp_reckoned.F [a0, a1] = endD ⟨2, [], ⟨false, false⟩, fun _ => none⟩ (evSl { ft_7 with ge := false } b_reckoned [.sh false a0, .sh false a1, .no, .no]) := mkS_F (ft := { ft_7 with ge := false }) (N := N_reckoned) (b := b_reckoned) rfl
theorem mu_sp_lacks_own : sp_lacks_own.mu = [] := Eq.trans rfl rfl
theorem n_sp_lacks_own : sp_lacks_own.n = 2 := Eq.trans rfl rfl
theorem kd_sp_lacks_own : sp_lacks_own.kd = ⟨false, false⟩ := Eq.trans rfl rfl
theorem un_lacks_own (a0 a1 : R.D) : sp_lacks_own.F [a0, a1] = endD ⟨2, [], ⟨false, false⟩, fun _ => none⟩ (evSl { ft_8 with ge := true } b_lacks_own [.sh false a0, .sh false a1, .no, .no, .no]) := mkS_F (ft := { ft_8 with ge := true }) (N := N_lacks_own) (b := b_lacks_own) rfl
theorem mu_sp_is_wrong_kind : sp_is_wrong_kind.mu = [] := Eq.trans rfl rfl
theorem n_sp_is_wrong_kind : sp_is_wrong_kind.n = 3 := Eq.trans rfl rfl
theorem kd_sp_is_wrong_kind : sp_is_wrong_kind.kd = ⟨false, false⟩ := Eq.trans rfl rfl
theorem un_is_wrong_kind (a0 a1 a2 : R.D) : sp_is_wrong_kind.F [a0, a1, a2] = endD ⟨3, [], ⟨false, false⟩, fun _ => none⟩ (evSl { ft_9 with ge := true } b_is_wrong_kind [.sh false a0, .sh false a1, .sh false a2, .no]) := mkS_F (ft := { ft_9 with ge := true }) (N := N_is_wrong_kind) (b := b_is_wrong_kind) rfl
theorem mu_sp_is_too_great : sp_is_too_great.mu = [] := Eq.trans rfl rfl
theorem n_sp_is_too_great : sp_is_too_great.n = 2 := Eq.trans rfl rfl
theorem kd_sp_is_too_great : sp_is_too_great.kd = ⟨false, false⟩ := Eq.trans rfl rfl
theorem un_is_too_great (a0 a1 : R.D) : sp_is_too_great.F [a0, a1] = endD ⟨2, [], ⟨false, false⟩, fun _ => none⟩ (evSl { ft_10 with ge := false } b_is_too_great [.sh false a0, .sh false a1]) := mkS_F (ft := { ft_10 with ge := false }) (N := N_is_too_great) (b := b_is_too_great) rfl
theorem mu_sp_is_full : sp_is_full.mu = [] := Eq.trans rfl rfl
theorem n_sp_is_full : sp_is_full.n = 2 := Eq.trans rfl rfl
theorem kd_sp_is_full : sp_is_full.kd = ⟨false, false⟩ := Eq.trans rfl rfl
theorem un_is_full (a0 a1 : R.D) : sp_is_full.F [a0, a1] = endD ⟨2, [], ⟨false, false⟩, fun _ => none⟩ (evSl { ft_11 with ge := false } b_is_full [.sh false a0, .sh false a1, .no, .no]) := mkS_F (ft := { ft_11 with ge := false }) (N := N_is_full) (b := b_is_full) rfl
theorem mu_sp_stuck_word : sp_stuck_word.mu = [] := Eq.trans rfl rfl
theorem n_sp_stuck_word : sp_stuck_word.n = 3 := Eq.trans rfl rfl
theorem kd_sp_stuck_word : sp_stuck_word.kd = ⟨false, false⟩ := Eq.trans rfl rfl
theorem un_stuck_word (a0 a1 a2 : R.D) : sp_stuck_word.F [a0, a1, a2] = endD ⟨3, [], ⟨false, false⟩, fun _ => none⟩ (evSl { ft_12 with ge := false } b_stuck_word [.sh false a0, .sh false a1, .sh false a2, .no, .no, .no, .no, .no, .no, .no, .no]) := mkS_F (ft := { ft_12 with ge := false }) (N := N_stuck_word) (b := b_stuck_word) rfl
theorem mu_sp_push : sp_push.mu = [0] := Eq.trans rfl rfl
theorem n_sp_push : sp_push.n = 2 := Eq.trans rfl rfl
theorem kd_sp_push : sp_push.kd = ⟨false, false⟩ := Eq.trans rfl rfl
theorem un_push (a0 a1 : R.D) : sp_push.F [a0, a1] = endD ⟨2, [0], ⟨false, false⟩, fun _ => none⟩ (evSl { ft_13 with ge := false } b_push [.ow false false a0, .sh false a1, .no, .no, .no, .no]) := mkS_F (ft := { ft_13 with ge := false }) (N := N_push) (b := b_push) rfl
theorem mu_sp_keep : sp_keep.mu = [0] := Eq.trans rfl rfl
theorem n_sp_keep : sp_keep.n = 2 := Eq.trans rfl rfl
theorem kd_sp_keep : sp_keep.kd = ⟨false, false⟩ := Eq.trans rfl rfl
theorem un_keep (a0 a1 : R.D) : sp_keep.F [a0, a1] = endD ⟨2, [0], ⟨false, false⟩, fun _ => none⟩ (evSl { ft_14 with ge := false } b_keep [.ow false false a0, .sh false a1, .no, .no, .no, .no]) := mkS_F (ft := { ft_14 with ge := false }) (N := N_keep) (b := b_keep) rfl
theorem mu_sp_push_new : sp_push_new.mu = [0, 1] := Eq.trans rfl rfl
theorem n_sp_push_new : sp_push_new.n = 3 := Eq.trans rfl rfl
theorem kd_sp_push_new : sp_push_new.kd = ⟨false, false⟩ := Eq.trans rfl rfl
theorem un_push_new (a0 a1 a2 : R.D) : sp_push_new.F [a0, a1, a2] = endD ⟨3, [0, 1], ⟨false, false⟩, fun _ => none⟩ (evSl { ft_15 with ge := false } b_push_new [.ow false false a0, .ow false false a1, .sh false a2, .no]) := mkS_F (ft := { ft_15 with ge := false }) (N := N_push_new) (b := b_push_new) rfl
theorem mu_sp_go : sp_go.mu = [0] := Eq.trans rfl rfl
theorem n_sp_go : sp_go.n = 2 := Eq.trans rfl rfl
theorem kd_sp_go : sp_go.kd = ⟨false, false⟩ := Eq.trans rfl rfl
theorem un_go (a0 a1 : R.D) : sp_go.F [a0, a1] = endD ⟨2, [0], ⟨false, false⟩, fun _ => none⟩ (evSl { ft_16 with ge := false } b_go [.ow false false a0, .sh false a1, .no, .no, .no, .no]) := mkS_F (ft := { ft_16 with ge := false }) (N := N_go) (b := b_go) rfl
theorem mu_sp_own_values : sp_own_values.mu = [] := Eq.trans rfl rfl
theorem n_sp_own_values : sp_own_values.n = 2 := Eq.trans rfl rfl
theorem kd_sp_own_values : sp_own_values.kd = ⟨false, false⟩ := Eq.trans rfl rfl
theorem un_own_values (a0 a1 : R.D) : sp_own_values.F [a0, a1] = endD ⟨2, [], ⟨false, false⟩, fun _ => none⟩ (evSl { ft_17 with ge := false } b_own_values [.sh false a0, .sh false a1, .no, .no]) := mkS_F (ft := { ft_17 with ge := false }) (N := N_own_values) (b := b_own_values) rfl
theorem mu_sp_do_instruction : sp_do_instruction.mu = [2, 3] := Eq.trans rfl rfl
theorem n_sp_do_instruction : sp_do_instruction.n = 4 := Eq.trans rfl rfl
theorem kd_sp_do_instruction : sp_do_instruction.kd = ⟨false, false⟩ := Eq.trans rfl rfl
theorem un_do_instruction (a0 a1 a2 a3 : R.D) : sp_do_instruction.F [a0, a1, a2, a3] = endD ⟨4, [2, 3], ⟨false, false⟩, fun _ => none⟩ (evSl { ft_18 with ge := false } b_do_instruction [.sh false a0, .sh false a1, .ow false false a2, .ow false false a3, .no, .no, .no, .no, .no, .no, .no, .no]) := mkS_F (ft := { ft_18 with ge := false }) (N := N_do_instruction) (b := b_do_instruction) rfl
theorem mu_sp_stepped : sp_stepped.mu = [] := Eq.trans rfl rfl
theorem n_sp_stepped : sp_stepped.n = 2 := Eq.trans rfl rfl
theorem kd_sp_stepped : sp_stepped.kd = ⟨false, true⟩ := Eq.trans rfl rfl
theorem un_stepped (a0 a1 : R.D) : sp_stepped.F [a0, a1] = endD ⟨2, [], ⟨false, true⟩, fun _ => none⟩ (evSl { ft_19 with ge := false } b_stepped [.sh false a0, .sh false a1, .no, .no, .no, .no, .no, .no, .no, .no, .no, .no, .no, .no, .no, .no, .no]) := mkS_F (ft := { ft_19 with ge := false }) (N := N_stepped) (b := b_stepped) rfl
theorem mu_sp__law_cell : sp__law_cell.mu = [] := Eq.trans rfl rfl
theorem n_sp__law_cell : sp__law_cell.n = 2 := Eq.trans rfl rfl
theorem kd_sp__law_cell : sp__law_cell.kd = ⟨false, false⟩ := Eq.trans rfl rfl
theorem un__law_cell (a0 a1 : R.D) : sp__law_cell.F [a0, a1] = endD ⟨2, [], ⟨false, false⟩, fun _ => none⟩ (evSl { ft_20 with ge := false } b__law_cell [.sh false a0, .sh false a1, .no, .no]) := mkS_F (ft := { ft_20 with ge := false }) (N := N__law_cell) (b := b__law_cell) rfl
theorem mu_sp__law_raw : sp__law_raw.mu = [] := Eq.trans rfl rfl
theorem n_sp__law_raw : sp__law_raw.n = 2 := Eq.trans rfl rfl
theorem kd_sp__law_raw : sp__law_raw.kd = ⟨false, false⟩ := Eq.trans rfl rfl
theorem un__law_raw (a0 a1 : R.D) : sp__law_raw.F [a0, a1] = endD ⟨2, [], ⟨false, false⟩, fun _ => none⟩ (evSl { ft_21 with ge := false } b__law_raw [.sh false a0, .sh false a1]) := mkS_F (ft := { ft_21 with ge := false }) (N := N__law_raw) (b := b__law_raw) rfl
theorem mu_sp__law_whole : sp__law_whole.mu = [] := Eq.trans rfl rfl
theorem n_sp__law_whole : sp__law_whole.n = 1 := Eq.trans rfl rfl
theorem kd_sp__law_whole : sp__law_whole.kd = ⟨false, false⟩ := Eq.trans rfl rfl
theorem un__law_whole (a0 : R.D) : sp__law_whole.F [a0] = endD ⟨1, [], ⟨false, false⟩, fun _ => none⟩ (evSl { ft_22 with ge := false } b__law_whole [.sh false a0]) := mkS_F (ft := { ft_22 with ge := false }) (N := N__law_whole) (b := b__law_whole) rfl
theorem mu_sp__law_number : sp__law_number.mu = [] := Eq.trans rfl rfl
theorem n_sp__law_number : sp__law_number.n = 2 := Eq.trans rfl rfl
theorem kd_sp__law_number : sp__law_number.kd = ⟨false, false⟩ := Eq.trans rfl rfl
theorem un__law_number (a0 a1 : R.D) : sp__law_number.F [a0, a1] = endD ⟨2, [], ⟨false, false⟩, fun _ => none⟩ (evSl { ft_23 with ge := false } b__law_number [.sh false a0, .sh false a1, .no]) := mkS_F (ft := { ft_23 with ge := false }) (N := N__law_number) (b := b__law_number) rfl
theorem mu_sp__law_value : sp__law_value.mu = [] := Eq.trans rfl rfl
theorem n_sp__law_value : sp__law_value.n = 3 := Eq.trans rfl rfl
theorem kd_sp__law_value : sp__law_value.kd = ⟨false, true⟩ := Eq.trans rfl rfl
theorem un__law_value (a0 a1 a2 : R.D) : sp__law_value.F [a0, a1, a2] = endD ⟨3, [], ⟨false, true⟩, fun _ => none⟩ (evSl { ft_24 with ge := false } b__law_value [.sh false a0, .sh false a1, .sh false a2, .no]) := mkS_F (ft := { ft_24 with ge := false }) (N := N__law_value) (b := b__law_value) rfl
theorem mu_sp__law_values : sp__law_values.mu = [] := Eq.trans rfl rfl
theorem n_sp__law_values : sp__law_values.n = 4 := Eq.trans rfl rfl
theorem kd_sp__law_values : sp__law_values.kd = ⟨false, true⟩ := Eq.trans rfl rfl
theorem un__law_values (a0 a1 a2 a3 : R.D) : sp__law_values.F [a0, a1, a2, a3] = endD ⟨4, [], ⟨false, true⟩, fun _ => none⟩ (evSl { ft_25 with ge := false } b__law_values [.sh false a0, .sh false a1, .sh false a2, .sh false a3, .no]) := mkS_F (ft := { ft_25 with ge := false }) (N := N__law_values) (b := b__law_values) rfl
theorem mu_sp__law_names : sp__law_names.mu = [] := Eq.trans rfl rfl
theorem n_sp__law_names : sp__law_names.n = 1 := Eq.trans rfl rfl
theorem kd_sp__law_names : sp__law_names.kd = ⟨false, false⟩ := Eq.trans rfl rfl
theorem un__law_names (a0 : R.D) : sp__law_names.F [a0] = endD ⟨1, [], ⟨false, false⟩, fun _ => none⟩ (evSl { ft_26 with ge := false } b__law_names [.sh false a0, .no, .no, .no, .no, .no]) := mkS_F (ft := { ft_26 with ge := false }) (N := N__law_names) (b := b__law_names) rfl
theorem mu_sp__law_things : sp__law_things.mu = [] := Eq.trans rfl rfl
theorem n_sp__law_things : sp__law_things.n = 3 := Eq.trans rfl rfl
theorem kd_sp__law_things : sp__law_things.kd = ⟨true, true⟩ := Eq.trans rfl rfl
theorem un__law_things (a0 a1 a2 : R.D) : sp__law_things.F [a0, a1, a2] = endD ⟨3, [], ⟨true, true⟩, fun _ => none⟩ (evSl { ft_27 with ge := false } b__law_things [.sh false a0, .sh false a1, .sh false a2, .no, .no, .no, .no]) := mkS_F (ft := { ft_27 with ge := false }) (N := N__law_things) (b := b__law_things) rfl
theorem mu_sp__law_frame : sp__law_frame.mu = [] := Eq.trans rfl rfl
theorem n_sp__law_frame : sp__law_frame.n = 4 := Eq.trans rfl rfl
theorem kd_sp__law_frame : sp__law_frame.kd = ⟨false, true⟩ := Eq.trans rfl rfl
theorem un__law_frame (a0 a1 a2 a3 : R.D) : sp__law_frame.F [a0, a1, a2, a3] = endD ⟨4, [], ⟨false, true⟩, fun _ => none⟩ (evSl { ft_28 with ge := false } b__law_frame [.sh false a0, .sh false a1, .sh false a2, .sh false a3, .no, .no, .no, .no]) := mkS_F (ft := { ft_28 with ge := false }) (N := N__law_frame) (b := b__law_frame) rfl
theorem mu_sp__law_frames : sp__law_frames.mu = [] := Eq.trans rfl rfl
theorem n_sp__law_frames : sp__law_frames.n = 3 := Eq.trans rfl rfl
theorem kd_sp__law_frames : sp__law_frames.kd = ⟨true, true⟩ := Eq.trans rfl rfl
theorem un__law_frames (a0 a1 a2 : R.D) : sp__law_frames.F [a0, a1, a2] = endD ⟨3, [], ⟨true, true⟩, fun _ => none⟩ (evSl { ft_29 with ge := false } b__law_frames [.sh false a0, .sh false a1, .sh false a2, .no, .no, .no]) := mkS_F (ft := { ft_29 with ge := false }) (N := N__law_frames) (b := b__law_frames) rfl
theorem mu_sp__law_row : sp__law_row.mu = [] := Eq.trans rfl rfl
theorem n_sp__law_row : sp__law_row.n = 5 := Eq.trans rfl rfl
theorem kd_sp__law_row : sp__law_row.kd = ⟨false, false⟩ := Eq.trans rfl rfl
theorem un__law_row (a0 a1 a2 a3 a4 : R.D) : sp__law_row.F [a0, a1, a2, a3, a4] = endD ⟨5, [], ⟨false, false⟩, fun _ => none⟩ (evSl { ft_30 with ge := false } b__law_row [.sh false a0, .sh false a1, .sh false a2, .sh false a3, .sh false a4, .no, .no, .no, .no, .no, .no]) := mkS_F (ft := { ft_30 with ge := false }) (N := N__law_row) (b := b__law_row) rfl
theorem mu_sp__law_program : sp__law_program.mu = [] := Eq.trans rfl rfl
theorem n_sp__law_program : sp__law_program.n = 2 := Eq.trans rfl rfl
theorem kd_sp__law_program : sp__law_program.kd = ⟨true, false⟩ := Eq.trans rfl rfl
theorem un__law_program (a0 a1 : R.D) : sp__law_program.F [a0, a1] = endD ⟨2, [], ⟨true, false⟩, fun _ => none⟩ (evSl { ft_31 with ge := false } b__law_program [.sh false a0, .sh false a1, .no, .no, .no, .no, .no, .no, .no]) := mkS_F (ft := { ft_31 with ge := false }) (N := N__law_program) (b := b__law_program) rfl
theorem mu_sp__law_state : sp__law_state.mu = [] := Eq.trans rfl rfl
theorem n_sp__law_state : sp__law_state.n = 2 := Eq.trans rfl rfl
theorem kd_sp__law_state : sp__law_state.kd = ⟨false, true⟩ := Eq.trans rfl rfl
theorem un__law_state (a0 a1 : R.D) : sp__law_state.F [a0, a1] = endD ⟨2, [], ⟨false, true⟩, fun _ => none⟩ (evSl { ft_32 with ge := false } b__law_state [.sh false a0, .sh false a1, .no]) := mkS_F (ft := { ft_32 with ge := false }) (N := N__law_state) (b := b__law_state) rfl
theorem mu_sp__law_topped : sp__law_topped.mu = [1] := Eq.trans rfl rfl
theorem n_sp__law_topped : sp__law_topped.n = 4 := Eq.trans rfl rfl
theorem kd_sp__law_topped : sp__law_topped.kd = ⟨false, false⟩ := Eq.trans rfl rfl
theorem un__law_topped (a0 a1 a2 a3 : R.D) : sp__law_topped.F [a0, a1, a2, a3] = endD ⟨4, [1], ⟨false, false⟩, fun _ => none⟩ (evSl { ft_33 with ge := false } b__law_topped [.sh false a0, .ow false false a1, .sh false a2, .sh false a3, .no, .no, .no, .no]) := mkS_F (ft := { ft_33 with ge := false }) (N := N__law_topped) (b := b__law_topped) rfl
theorem mu_sp__law_same_things : sp__law_same_things.mu = [] := Eq.trans rfl rfl
theorem n_sp__law_same_things : sp__law_same_things.n = 2 := Eq.trans rfl rfl
theorem kd_sp__law_same_things : sp__law_same_things.kd = ⟨false, false⟩ := Eq.trans rfl rfl
theorem un__law_same_things (a0 a1 : R.D) : sp__law_same_things.F [a0, a1] = endD ⟨2, [], ⟨false, false⟩, fun _ => none⟩ (evSl { ft_35 with ge := false } b__law_same_things [.sh false a0, .sh false a1, .no]) := mkS_F (ft := { ft_35 with ge := false }) (N := N__law_same_things) (b := b__law_same_things) rfl
theorem mu_sp__law_same_state : sp__law_same_state.mu = [] := Eq.trans rfl rfl
theorem n_sp__law_same_state : sp__law_same_state.n = 2 := Eq.trans rfl rfl
theorem kd_sp__law_same_state : sp__law_same_state.kd = ⟨false, false⟩ := Eq.trans rfl rfl
theorem un__law_same_state (a0 a1 : R.D) : sp__law_same_state.F [a0, a1] = endD ⟨2, [], ⟨false, false⟩, fun _ => none⟩ (evSl { ft_36 with ge := false } b__law_same_state [.sh false a0, .sh false a1]) := mkS_F (ft := { ft_36 with ge := false }) (N := N__law_same_state) (b := b__law_same_state) rfl
theorem mu_sp__law_copy : sp__law_copy.mu = [] := Eq.trans rfl rfl
theorem n_sp__law_copy : sp__law_copy.n = 1 := Eq.trans rfl rfl
theorem kd_sp__law_copy : sp__law_copy.kd = ⟨false, false⟩ := Eq.trans rfl rfl
theorem un__law_copy (a0 : R.D) : sp__law_copy.F [a0] = endD ⟨1, [], ⟨false, false⟩, fun _ => none⟩ (evSl { ft_37 with ge := false } b__law_copy [.sh false a0]) := mkS_F (ft := { ft_37 with ge := false }) (N := N__law_copy) (b := b__law_copy) rfl
theorem mu_sp__law_is_box : sp__law_is_box.mu = [] := Eq.trans rfl rfl
theorem n_sp__law_is_box : sp__law_is_box.n = 2 := Eq.trans rfl rfl
theorem kd_sp__law_is_box : sp__law_is_box.kd = ⟨false, false⟩ := Eq.trans rfl rfl
theorem un__law_is_box (a0 a1 : R.D) : sp__law_is_box.F [a0, a1] = endD ⟨2, [], ⟨false, false⟩, fun _ => none⟩ (evSl { ft_38 with ge := false } b__law_is_box [.sh false a0, .sh false a1]) := mkS_F (ft := { ft_38 with ge := false }) (N := N__law_is_box) (b := b__law_is_box) rfl
theorem mu_sp__law_due : sp__law_due.mu = [] := Eq.trans rfl rfl
theorem n_sp__law_due : sp__law_due.n = 3 := Eq.trans rfl rfl
theorem kd_sp__law_due : sp__law_due.kd = ⟨false, false⟩ := Eq.trans rfl rfl
theorem un__law_due (a0 a1 a2 : R.D) : sp__law_due.F [a0, a1, a2] = endD ⟨3, [], ⟨false, false⟩, fun _ => none⟩ (evSl { ft_39 with ge := false } b__law_due [.sh false a0, .sh false a1, .sh false a2, .no, .no, .no, .no]) := mkS_F (ft := { ft_39 with ge := false }) (N := N__law_due) (b := b__law_due) rfl
theorem mu_sp_law : sp_law.mu = [] := Eq.trans rfl rfl
theorem n_sp_law : sp_law.n = 1 := Eq.trans rfl rfl
theorem kd_sp_law : sp_law.kd = ⟨false, false⟩ := Eq.trans rfl rfl
theorem un_law (a0 : R.D) : sp_law.F [a0] = endD ⟨1, [], ⟨false, false⟩, fun _ => none⟩ (evSl { ft_40 with ge := false } b_law [.sh false a0, .no, .no, .no, .no, .no, .no, .no, .no, .no]) := mkS_F (ft := { ft_40 with ge := false }) (N := N_law) (b := b_law) rfl
theorem mu_sp__law_alike (k : Nat) : (sp__law_alike k).mu = [] := by cases k <;> exact Eq.trans rfl rfl
theorem n_sp__law_alike (k : Nat) : (sp__law_alike k).n = 2 := by cases k <;> exact Eq.trans rfl rfl
theorem kd_sp__law_alike (k : Nat) : (sp__law_alike k).kd = ⟨false, false⟩ := by cases k <;> exact Eq.trans rfl rfl
theorem un__law_alike (m : Nat) (a0 a1 : R.D) : (sp__law_alike (m + 1)).F [a0, a1] = endD ⟨2, [], ⟨false, false⟩, fun _ => none⟩ (evSl (add { ft_34 with ge := false } "_law_alike" (sp__law_alike m)) b__law_alike [.sh false a0, .sh false a1, .no]) := mkS_F (ft := (add { ft_34 with ge := false } "_law_alike" (sp__law_alike m))) (N := N__law_alike) (b := b__law_alike) rfl
end K03RWA
set_option maxHeartbeats 2000000
namespace K03RWA
open PySem PySem.Spec PyProof.Rows L2 R
def cellF (s : List Int) (k : Int) : Int :=
  let m := (if 0 < (s.length : Int) then (match L2.atI s (k % (s.length : Int)) with | some x => x * 48271 + k * 7919 + k / (s.length : Int) * 104729 | none => 0) else k * 7919) % 1000003
  m * (m + 2 * k + 17) % 1000003
theorem cellF_eq (s : List Int) (k m : Int) (h : (if 0 < (s.length : Int) then (match L2.atI s (k % (s.length : Int)) with | some x => x * 48271 + k * 7919 + k / (s.length : Int) * 104729 | none => 0) else k * 7919) % 1000003 = m) : m * (m + 2 * k + 17) % 1000003 = cellF s k := by
  rw [← h]; rfl
theorem cell0 (s : List Int) (k : Int) : 0 ≤ cellF s k := Int.emod_nonneg _ (by decide)
theorem atI_map {α β : Type} (f : α → β) (xs : List α) (z : Int) : L2.atI (xs.map f) z = (L2.atI xs z).map f := by
  unfold L2.atI
  rw [List.length_map]
  cases ixN xs.length z with
  | none => rfl
  | some j => simp [List.getElem?_map]
theorem atI_in {s : List Int} {k : Int} (h : 0 < (s.length : Int)) : ∃ x, L2.atI s (k % (s.length : Int)) = some x := by
  have h1 := Int.emod_nonneg k (show (s.length : Int) ≠ 0 by omega)
  have h2 := Int.emod_lt_of_pos k h
  obtain ⟨j, hj⟩ : ∃ j : Nat, k % (s.length : Int) = (j : Int) := ⟨(k % (s.length : Int)).toNat, by omega⟩
  rw [hj] at h2 ⊢
  have hlt : j < s.length := by omega
  exact ⟨s[j], L2.atI_nat (List.getElem?_eq_getElem hlt)⟩
theorem small_mod (i : Int) : smallI (i % 1000003) = true := by
  have h1 := Int.emod_nonneg i (show (1000003 : Int) ≠ 0 by decide)
  have h2 := Int.emod_lt_of_pos i (show (0 : Int) < 1000003 by decide)
  unfold smallI
  rw [decide_eq_true_eq]
  have e : (2 : Int) ^ 64 = 18446744073709551616 := by decide
  rw [e]
  constructor <;> omega
theorem small_of {i : Int} (h0 : 0 ≤ i) (h1 : i ≤ 1000) : smallI i = true := by
  unfold smallI
  rw [decide_eq_true_eq]
  have e : (2 : Int) ^ 64 = 18446744073709551616 := by decide
  rw [e]
  constructor <;> omega
local macro_rules | `(tactic| simp! [$ls,*]) => `(tactic| simp only [lit_inj, shaped_lit, small_lit, len_lit, String.reduceEq, Nat.reduceLeDiff, upK_t, upK_f, noMutI_l, noMutI_d, evE_call, evE_v, evE_k, evE_dnew, evE_tup, evE_lst, 
    evE_bin, evE_cmp, evE_ch, evE_and, evE_or, andK_ok, orK_ok, evE_not, evE_ife, evE_bf, evE_isi, evE_ix, evE_sl, evE_vals, evE_me, evL_nil, evL_cons, evBL_nil, 
    evBL_cons, evO_no, evO_k, evT_def, evB_def, evSt_set, evSt_ife, evSt_ret, evSt_frz, evSt_app, evSt_sti, evSt_unp, retE_v, retE_k, retE_tup, retE_lst, retE_bin, 
    retE_cmp, retE_ch, retE_and, retE_or, retE_not, retE_ife, retE_call, retE_bf, retE_isi, retE_ix, retE_sl, retE_lc, brw_v, brw_k, brw_g, brw_neg, brw_tup, 
    brw_lst, brw_bin, brw_cmp, brw_ch, brw_and, brw_or, brw_not, brw_ife, brw_call, brw_bf, brw_isi, brw_ix, brw_sl, brw_lc, brw_vals, brw_ge, brw_dnew, brw_me, 
    bd_ok, bd_ok', exO_ok, exO_ok', lift_some, slotV_sh, slotB_sh, slotB_ow, toB_ok, toB_ok', ok_def, sc, callR_ok, bin_add, bin_sub, bin_mul, bin_div, bin_mod, 
    bf_len_l, bf_len_t, bf_len_d, bf_list_l, bf_list_t, bf_list_d, bf_tuple_l, bf_dict_d, bf_max, bf_int_b, cmp_gt, cmp_lt, cmp_le, cmp_ge, cmp_eqi, cmp_eqs, 
    cmp_nes, cmp_is, ix_l, ix_t, trE_ok, truthE, mul_l, mul_r, putS, mutOld_no, mutOld_sh, mutOld_ow, slotOf_t, slotOf_f, frzE, stiE, appE, keyOf_int0, isSc_int, 
    isSc_str, isSc_none, isSc_bool, noMut_int, noMut_str, noMut_none, noMut_bool, noMut_list, noMut_dict, List.getElem?_cons_succ, List.getElem?_cons_zero, 
    List.set_cons_succ, List.set_cons_zero, List.length_cons, List.length_nil, List.length_map, Nat.reduceAdd, Nat.reduceLT, Int.reduceLT, Int.reduceMul, 
    Int.reduceAdd, Int.reduceSub, Int.reduceNeg, Int.reduceLE, Int.reduceToNat, Nat.reducePow, Int.reducePow, Option.bind_some, bin_pow, bin_add_t, bin_add_l, 
    bin_add_s, sl_t, sl_l, isOwL_t, atI2, atI2i, isOw_t, and_self, true_and, and_true, if_true, if_false, Bool.false_eq_true, decide_true, decide_false, 
    decide_eq_true_eq, Option.map_some, Bool.or_true, Bool.true_and, Bool.and_true, Bool.false_or, Bool.or_false, Bool.false_and, Bool.and_false, Bool.true_or, 
    Bool.or_self, Bool.and_self, seqO_nx, seqO_rt, seqO_er, evSv_r, evSv_l, items_l, items_t, evS_l, evS_r, callK_ok, callK_b0, callK_b1, callK_b2, callK_b3, 
    callK_b4, eq_self, Int.toNat_natCast, isi_none_tuple_list, isi_none_tuple, isi_none_list, isi_none_str, isi_none_int, isi_none_bool, isi_none_dict, 
    isi_bool_tuple_list, isi_bool_tuple, isi_bool_list, isi_bool_str, isi_bool_int, isi_bool_bool, isi_bool_dict, isi_int_tuple_list, isi_int_tuple, isi_int_list, 
    isi_int_str, isi_int_int, isi_int_bool, isi_int_dict, isi_str_tuple_list, isi_str_tuple, isi_str_list, isi_str_str, isi_str_int, isi_str_bool, isi_str_dict, 
    isi_list_tuple_list, isi_list_tuple, isi_list_list, isi_list_str, isi_list_int, isi_list_bool, isi_list_dict, isi_tuple_tuple_list, isi_tuple_tuple, 
    isi_tuple_list, isi_tuple_str, isi_tuple_int, isi_tuple_bool, isi_tuple_dict, isi_dict_tuple_list, isi_dict_tuple, isi_dict_list, isi_dict_str, isi_dict_int, 
    isi_dict_bool, isi_dict_dict, cmp_nei, cmp_neb, cmp_eqb, cmp_isb, cmp_isnb, cmp_in_d, cmp_nin_d, ix_d, bf_all_l, Int.cast_ofNat_Int, Int.ofNat_zero, 
    Int.ofNat_one, Int.reduceEq, Int.reduceNe, Nat.reduceEqDiff, not_true_eq_false, not_false_eq_true, Bool.not_true, Bool.not_false, Bool.not_not, 
    Option.isSome_some, Option.isSome_none, Bool.not_eq_true, Bool.and_eq_true, Bool.or_eq_true, Bool.not_eq_false, putAll_nil, putAll_cons, hideE, evC_so, cmp_nn, 
    cmp_en, bf_sorted, evSt_tl, evTl_set, evTl_tst, evTl_wrk, loE_cons, loE_nil, loS_no, loS_sh, loS_ow, oldFree_nil, oldFree_no, oldFree_sh, oldFree_ow, ne_eq, 
    evE_neg, bf_min, evE_g, at_last, cut_init, evO_so, cmp_isnot, evSt_mat, evCs_nil, putB_nil, bf_max_l, mu_sp_is_number, n_sp_is_number, kd_sp_is_number, 
    mu_sp_thing_of, n_sp_thing_of, kd_sp_thing_of, mu_sp_is_box, n_sp_is_box, kd_sp_is_box, mu_sp_is_function, n_sp_is_function, kd_sp_is_function, mu_sp_new_number, 
    n_sp_new_number, kd_sp_new_number, mu_sp_spoken, n_sp_spoken, kd_sp_spoken, mu_sp_reckoned, n_sp_reckoned, kd_sp_reckoned, mu_sp_lacks_own, n_sp_lacks_own, 
    kd_sp_lacks_own, mu_sp_is_wrong_kind, n_sp_is_wrong_kind, kd_sp_is_wrong_kind, mu_sp_is_too_great, n_sp_is_too_great, kd_sp_is_too_great, mu_sp_is_full, 
    n_sp_is_full, kd_sp_is_full, mu_sp_stuck_word, n_sp_stuck_word, kd_sp_stuck_word, mu_sp_push, n_sp_push, kd_sp_push, mu_sp_keep, n_sp_keep, kd_sp_keep, 
    mu_sp_push_new, n_sp_push_new, kd_sp_push_new, mu_sp_go, n_sp_go, kd_sp_go, mu_sp_own_values, n_sp_own_values, kd_sp_own_values, mu_sp_do_instruction, 
    n_sp_do_instruction, kd_sp_do_instruction, mu_sp_stepped, n_sp_stepped, kd_sp_stepped, mu_sp__law_cell, n_sp__law_cell, kd_sp__law_cell, mu_sp__law_raw, 
    n_sp__law_raw, kd_sp__law_raw, mu_sp__law_whole, n_sp__law_whole, kd_sp__law_whole, mu_sp__law_number, n_sp__law_number, kd_sp__law_number, mu_sp__law_value, 
    n_sp__law_value, kd_sp__law_value, mu_sp__law_values, n_sp__law_values, kd_sp__law_values, mu_sp__law_names, n_sp__law_names, kd_sp__law_names, 
    mu_sp__law_things, n_sp__law_things, kd_sp__law_things, mu_sp__law_frame, n_sp__law_frame, kd_sp__law_frame, mu_sp__law_frames, n_sp__law_frames, 
    kd_sp__law_frames, mu_sp__law_row, n_sp__law_row, kd_sp__law_row, mu_sp__law_program, n_sp__law_program, kd_sp__law_program, mu_sp__law_state, n_sp__law_state, 
    kd_sp__law_state, mu_sp__law_topped, n_sp__law_topped, kd_sp__law_topped, mu_sp__law_same_things, n_sp__law_same_things, kd_sp__law_same_things, 
    mu_sp__law_same_state, n_sp__law_same_state, kd_sp__law_same_state, mu_sp__law_copy, n_sp__law_copy, kd_sp__law_copy, mu_sp__law_is_box, n_sp__law_is_box, 
    kd_sp__law_is_box, mu_sp__law_due, n_sp__law_due, kd_sp__law_due, mu_sp_law, n_sp_law, kd_sp_law, mu_sp__law_alike, n_sp__law_alike, kd_sp__law_alike, $ls,*])
local macro_rules | `(tactic| simp!) => `(tactic| simp only [lit_inj, shaped_lit, small_lit, len_lit, String.reduceEq, Nat.reduceLeDiff, upK_t, upK_f, noMutI_l, noMutI_d, evE_call, evE_v, evE_k, evE_dnew, evE_tup, evE_lst, 
    evE_bin, evE_cmp, evE_ch, evE_and, evE_or, andK_ok, orK_ok, evE_not, evE_ife, evE_bf, evE_isi, evE_ix, evE_sl, evE_vals, evE_me, evL_nil, evL_cons, evBL_nil, 
    evBL_cons, evO_no, evO_k, evT_def, evB_def, evSt_set, evSt_ife, evSt_ret, evSt_frz, evSt_app, evSt_sti, evSt_unp, retE_v, retE_k, retE_tup, retE_lst, retE_bin, 
    retE_cmp, retE_ch, retE_and, retE_or, retE_not, retE_ife, retE_call, retE_bf, retE_isi, retE_ix, retE_sl, retE_lc, brw_v, brw_k, brw_g, brw_neg, brw_tup, 
    brw_lst, brw_bin, brw_cmp, brw_ch, brw_and, brw_or, brw_not, brw_ife, brw_call, brw_bf, brw_isi, brw_ix, brw_sl, brw_lc, brw_vals, brw_ge, brw_dnew, brw_me, 
    bd_ok, bd_ok', exO_ok, exO_ok', lift_some, slotV_sh, slotB_sh, slotB_ow, toB_ok, toB_ok', ok_def, sc, callR_ok, bin_add, bin_sub, bin_mul, bin_div, bin_mod, 
    bf_len_l, bf_len_t, bf_len_d, bf_list_l, bf_list_t, bf_list_d, bf_tuple_l, bf_dict_d, bf_max, bf_int_b, cmp_gt, cmp_lt, cmp_le, cmp_ge, cmp_eqi, cmp_eqs, 
    cmp_nes, cmp_is, ix_l, ix_t, trE_ok, truthE, mul_l, mul_r, putS, mutOld_no, mutOld_sh, mutOld_ow, slotOf_t, slotOf_f, frzE, stiE, appE, keyOf_int0, isSc_int, 
    isSc_str, isSc_none, isSc_bool, noMut_int, noMut_str, noMut_none, noMut_bool, noMut_list, noMut_dict, List.getElem?_cons_succ, List.getElem?_cons_zero, 
    List.set_cons_succ, List.set_cons_zero, List.length_cons, List.length_nil, List.length_map, Nat.reduceAdd, Nat.reduceLT, Int.reduceLT, Int.reduceMul, 
    Int.reduceAdd, Int.reduceSub, Int.reduceNeg, Int.reduceLE, Int.reduceToNat, Nat.reducePow, Int.reducePow, Option.bind_some, bin_pow, bin_add_t, bin_add_l, 
    bin_add_s, sl_t, sl_l, isOwL_t, atI2, atI2i, isOw_t, and_self, true_and, and_true, if_true, if_false, Bool.false_eq_true, decide_true, decide_false, 
    decide_eq_true_eq, Option.map_some, Bool.or_true, Bool.true_and, Bool.and_true, Bool.false_or, Bool.or_false, Bool.false_and, Bool.and_false, Bool.true_or, 
    Bool.or_self, Bool.and_self, seqO_nx, seqO_rt, seqO_er, evSv_r, evSv_l, items_l, items_t, evS_l, evS_r, callK_ok, callK_b0, callK_b1, callK_b2, callK_b3, 
    callK_b4, eq_self, Int.toNat_natCast, isi_none_tuple_list, isi_none_tuple, isi_none_list, isi_none_str, isi_none_int, isi_none_bool, isi_none_dict, 
    isi_bool_tuple_list, isi_bool_tuple, isi_bool_list, isi_bool_str, isi_bool_int, isi_bool_bool, isi_bool_dict, isi_int_tuple_list, isi_int_tuple, isi_int_list, 
    isi_int_str, isi_int_int, isi_int_bool, isi_int_dict, isi_str_tuple_list, isi_str_tuple, isi_str_list, isi_str_str, isi_str_int, isi_str_bool, isi_str_dict, 
    isi_list_tuple_list, isi_list_tuple, isi_list_list, isi_list_str, isi_list_int, isi_list_bool, isi_list_dict, isi_tuple_tuple_list, isi_tuple_tuple, 
    isi_tuple_list, isi_tuple_str, isi_tuple_int, isi_tuple_bool, isi_tuple_dict, isi_dict_tuple_list, isi_dict_tuple, isi_dict_list, isi_dict_str, isi_dict_int, 
    isi_dict_bool, isi_dict_dict, cmp_nei, cmp_neb, cmp_eqb, cmp_isb, cmp_isnb, cmp_in_d, cmp_nin_d, ix_d, bf_all_l, Int.cast_ofNat_Int, Int.ofNat_zero, 
    Int.ofNat_one, Int.reduceEq, Int.reduceNe, Nat.reduceEqDiff, not_true_eq_false, not_false_eq_true, Bool.not_true, Bool.not_false, Bool.not_not, 
    Option.isSome_some, Option.isSome_none, Bool.not_eq_true, Bool.and_eq_true, Bool.or_eq_true, Bool.not_eq_false, putAll_nil, putAll_cons, hideE, evC_so, cmp_nn, 
    cmp_en, bf_sorted, evSt_tl, evTl_set, evTl_tst, evTl_wrk, loE_cons, loE_nil, loS_no, loS_sh, loS_ow, oldFree_nil, oldFree_no, oldFree_sh, oldFree_ow, ne_eq, 
    evE_neg, bf_min, evE_g, at_last, cut_init, evO_so, cmp_isnot, evSt_mat, evCs_nil, putB_nil, bf_max_l, mu_sp_is_number, n_sp_is_number, kd_sp_is_number, 
    mu_sp_thing_of, n_sp_thing_of, kd_sp_thing_of, mu_sp_is_box, n_sp_is_box, kd_sp_is_box, mu_sp_is_function, n_sp_is_function, kd_sp_is_function, mu_sp_new_number, 
    n_sp_new_number, kd_sp_new_number, mu_sp_spoken, n_sp_spoken, kd_sp_spoken, mu_sp_reckoned, n_sp_reckoned, kd_sp_reckoned, mu_sp_lacks_own, n_sp_lacks_own, 
    kd_sp_lacks_own, mu_sp_is_wrong_kind, n_sp_is_wrong_kind, kd_sp_is_wrong_kind, mu_sp_is_too_great, n_sp_is_too_great, kd_sp_is_too_great, mu_sp_is_full, 
    n_sp_is_full, kd_sp_is_full, mu_sp_stuck_word, n_sp_stuck_word, kd_sp_stuck_word, mu_sp_push, n_sp_push, kd_sp_push, mu_sp_keep, n_sp_keep, kd_sp_keep, 
    mu_sp_push_new, n_sp_push_new, kd_sp_push_new, mu_sp_go, n_sp_go, kd_sp_go, mu_sp_own_values, n_sp_own_values, kd_sp_own_values, mu_sp_do_instruction, 
    n_sp_do_instruction, kd_sp_do_instruction, mu_sp_stepped, n_sp_stepped, kd_sp_stepped, mu_sp__law_cell, n_sp__law_cell, kd_sp__law_cell, mu_sp__law_raw, 
    n_sp__law_raw, kd_sp__law_raw, mu_sp__law_whole, n_sp__law_whole, kd_sp__law_whole, mu_sp__law_number, n_sp__law_number, kd_sp__law_number, mu_sp__law_value, 
    n_sp__law_value, kd_sp__law_value, mu_sp__law_values, n_sp__law_values, kd_sp__law_values, mu_sp__law_names, n_sp__law_names, kd_sp__law_names, 
    mu_sp__law_things, n_sp__law_things, kd_sp__law_things, mu_sp__law_frame, n_sp__law_frame, kd_sp__law_frame, mu_sp__law_frames, n_sp__law_frames, 
    kd_sp__law_frames, mu_sp__law_row, n_sp__law_row, kd_sp__law_row, mu_sp__law_program, n_sp__law_program, kd_sp__law_program, mu_sp__law_state, n_sp__law_state, 
    kd_sp__law_state, mu_sp__law_topped, n_sp__law_topped, kd_sp__law_topped, mu_sp__law_same_things, n_sp__law_same_things, kd_sp__law_same_things, 
    mu_sp__law_same_state, n_sp__law_same_state, kd_sp__law_same_state, mu_sp__law_copy, n_sp__law_copy, kd_sp__law_copy, mu_sp__law_is_box, n_sp__law_is_box, 
    kd_sp__law_is_box, mu_sp__law_due, n_sp__law_due, kd_sp__law_due, mu_sp_law, n_sp_law, kd_sp_law, mu_sp__law_alike, n_sp__law_alike, kd_sp__law_alike])
theorem cell_ok (s : List Int) (k : Int) (hl : s.length ≤ 64) : sp__law_cell.F [.list (s.map .int), .int k] = some (.ok (.int (cellF s k), [])) := by
  have hk : ∃ ft : R.FT, sp__law_cell.F [.list (s.map .int), .int k] = endD ⟨2, [], ⟨false, false⟩, fun _ => none⟩ (evSl ft b__law_cell [.sh false (.list (s.map .int)), .sh false (.int k), .no, .no]) := ⟨_, un__law_cell _ _⟩
  obtain ⟨ft, hk⟩ := hk
  rw [hk]
  apply Ends.eq
  unfold b__law_cell
  (rw [evSl_cons]; simp!)
  (rw [evSl_cons]; simp!)
  rw [evSl_cons]
  simp! [evSl_nil]
  by_cases h : 0 < (s.length : Int)
  · obtain ⟨x, hx⟩ := atI_in (k := k) h
    have hx' : L2.atI (s.map PyData.int) (k % (s.length : Int)) = some (.int x) := by rw [atI_map, hx]; rfl
    rw [if_pos h]
    (rw [evSl_cons]; simp! [h, show (s.length : Int) < 1073741824 by omega, hx'])
    (rw [evSl_cons]; simp!)
    rw [evSl_nil, seqO_nx]
    (rw [evSl_cons]; simp!)
    (rw [evSl_cons]; simp! [small_mod])
    exact Ends.mk (congrArg _ (cellF_eq s k _ (by rw [if_pos h, hx])))
  · rw [if_neg h, seqO_nx]
    (rw [evSl_cons]; simp!)
    (rw [evSl_cons]; simp! [small_mod])
    exact Ends.mk (congrArg _ (cellF_eq s k _ (by rw [if_neg h])))
def rawF (s : List Int) (k : Int) : Int :=
  if (s.length : Int) = 0 then k * 7919 else (match L2.atI s (k % (s.length : Int)) with | some x => x + k / (s.length : Int) * 104729 | none => 0)
theorem raw_ok (s : List Int) (k : Int) (hl : s.length ≤ 64) : sp__law_raw.F [.list (s.map .int), .int k] = some (.ok (.int (rawF s k), [])) := by
  have hk : ∃ ft : R.FT, sp__law_raw.F [.list (s.map .int), .int k] = endD ⟨2, [], ⟨false, false⟩, fun _ => none⟩ (evSl ft b__law_raw [.sh false (.list (s.map .int)), .sh false (.int k)]) := ⟨_, un__law_raw _ _⟩
  obtain ⟨ft, hk⟩ := hk
  rw [hk]
  apply Ends.eq
  unfold b__law_raw
  rw [evSl_cons]
  simp! [evSl_nil]
  unfold rawF
  by_cases h : (s.length : Int) = 0
  · rw [if_pos h, if_pos h]
    (rw [evSl_cons]; simp!)
    exact Ends.mk rfl
  · have h' : 0 < (s.length : Int) := by omega
    obtain ⟨x, hx⟩ := atI_in (k := k) h'
    have hx' : L2.atI (s.map PyData.int) (k % (s.length : Int)) = some (.int x) := by rw [atI_map, hx]; rfl
    rw [if_neg h, if_neg h, seqO_nx]
    (rw [evSl_cons]; simp! [h', show (s.length : Int) < 1073741824 by omega, hx', hx])
    exact Ends.mk rfl
def nums6 : List Int := [10 ^ 30, 0 - 10 ^ 30, 10 ^ 30 - 1, 0, 10 ^ 15, 0 - 10 ^ 15 - 1]
/-- a whole number that a value may be -/
def Num (z : Int) : Prop := -(10 ^ 30) ≤ z ∧ z ≤ 10 ^ 30
theorem number_ok (s : List Int) (k : Int) (hl : s.length ≤ 64) : ∃ d, (∃ z, d = .int z ∧ Num z) ∧ sp__law_number.F [.list (s.map .int), .int k] = some (.ok (d, [])) := by
  have hk : ∃ ft : R.FT, ft.fn "_law_cell" = some sp__law_cell ∧ ft.fn "_law_raw" = some sp__law_raw ∧ sp__law_number.F [.list (s.map .int), .int k] = endD ⟨2, [], ⟨false, false⟩, fun _ => none⟩ (evSl ft b__law_number [.sh false (.list (s.map .int)), .sh false (.int k), .no]) := ⟨_, rfl, rfl, un__law_number _ _⟩
  obtain ⟨ft, f1, f2, hk⟩ := hk
  rw [hk]
  apply Ends.fin
  unfold b__law_number
  (rw [evSl_cons]; simp! [f1, fun k => cell_ok s k hl])
  rw [evSl_cons]
  simp! [evSl_nil]
  by_cases h1 : cellF s k % 6 = 1
  · rw [if_pos h1]
    have h0 := Int.emod_nonneg (rawF s k) (show (2000000000000000000000000000001 : Int) ≠ 0 by decide)
    have h2 := Int.emod_lt_of_pos (rawF s k) (show (0 : Int) < 2000000000000000000000000000001 by decide)
    (rw [evSl_cons]; simp! [f2, fun k => raw_ok s k hl])
    refine Ends.mk ⟨_, rfl, ?_⟩
    unfold Num
    rw [show (10 : Int) ^ 30 = 1000000000000000000000000000000 by decide]
    omega
  rw [if_neg h1, seqO_nx, evSl_cons]
  simp! [evSl_nil]
  by_cases h2 : cellF s k % 6 = 2
  · rw [if_pos h2]
    obtain ⟨x, hx, hx2⟩ := atI_mod (xs := nums6.map PyData.int) (i := cellF s k / 6) (by decide)
    obtain ⟨z, hz, rfl⟩ := List.mem_map.mp hx
    have hx3 : L2.atI [PyData.int 1000000000000000000000000000000, PyData.int (-1000000000000000000000000000000), PyData.int 999999999999999999999999999999, PyData.int 0, PyData.int 1000000000000000, PyData.int (-1000000000000001)] (cellF s k / 6 % 6) = some (.int z) := hx2
    (rw [evSl_cons]; simp! [hx3])
    refine Ends.mk ⟨_, rfl, ?_⟩
    have : ∀ z, z ∈ nums6 → Num z := by unfold Num nums6; decide +kernel
    exact this z hz
  rw [if_neg h2, seqO_nx]
  (rw [evSl_cons]; simp!)
  refine Ends.mk ⟨_, rfl, ?_⟩
  have h3 := Int.emod_nonneg (cellF s k / 6) (show (7 : Int) ≠ 0 by decide)
  have h4 := Int.emod_lt_of_pos (cellF s k / 6) (show (0 : Int) < 7 by decide)
  unfold Num
  rw [show (10 : Int) ^ 30 = 1000000000000000000000000000000 by decide]
  omega
end K03RWA
namespace K03RWA
open PySem PySem.Spec PyProof.Rows L2 R
theorem can_ints : ∀ ns : List Int, PyData.canLayAll0 (ns.map .int) = true ∧ PyData.depthAll (ns.map .int) = 0
  | [] => ⟨rfl, rfl⟩
  | n :: ns => by
    obtain ⟨a, b⟩ := can_ints ns
    constructor
    · rw [List.map_cons]
      show (PyData.canLay0 (.int n) && PyData.canLayAll0 (ns.map .int)) = true
      rw [a]; rfl
    · rw [List.map_cons]
      show max (PyData.depth (.int n)) (PyData.depthAll (ns.map .int)) = 0
      rw [b]; rfl
theorem shaped_ints (ns : List Int) : shapedB (.list (ns.map .int)) = true := by
  obtain ⟨a, b⟩ := can_ints ns
  show (PyData.canLayAll0 (ns.map .int) && decide (PyData.depthAll (ns.map .int) + 1 ≤ 64)) = true
  rw [a, b]; rfl
theorem eqv_nil0 {xs : List R.D} : PyData.eqv (.list xs) (.list []) = xs.isEmpty := by cases xs <;> rfl
theorem cmp_ne0 {f g : Bool} (ns : List Int) : cmpE .NotEq (f, .list (ns.map .int)) (g, .list []) = some (!(ns.map PyData.int).isEmpty) := by
  show (if (shapedB (.list (ns.map .int)) && shapedB (.list [])) = true then some (!PyData.eqv (.list (ns.map .int)) (.list [])) else none) = _
  rw [shaped_ints, if_pos (show (true && shapedB (.list [])) = true from rfl), eqv_nil0]
/-- a value of the law: a whole number, or a thing of these names -/
def VD (names : List Int) (d : R.D) : Prop := (∃ z, d = .int z ∧ Num z) ∨ ∃ n, n ∈ names ∧ d = .tuple [.str "at", .int n]
theorem VD.nm {names : List Int} {d : R.D} (h : VD names d) : noMut d = true := by
  rcases h with ⟨z, rfl, _⟩ | ⟨n, _, rfl⟩ <;> rfl
local macro_rules | `(tactic| simp! [$ls,*]) => `(tactic| simp only [lit_inj, shaped_lit, small_lit, len_lit, String.reduceEq, Nat.reduceLeDiff, upK_t, upK_f, noMutI_l, noMutI_d, evE_call, evE_v, evE_k, evE_dnew, evE_tup, evE_lst, 
    evE_bin, evE_cmp, evE_ch, evE_and, evE_or, andK_ok, orK_ok, evE_not, evE_ife, evE_bf, evE_isi, evE_ix, evE_sl, evE_vals, evE_me, evL_nil, evL_cons, evBL_nil, 
    evBL_cons, evO_no, evO_k, evT_def, evB_def, evSt_set, evSt_ife, evSt_ret, evSt_frz, evSt_app, evSt_sti, evSt_unp, retE_v, retE_k, retE_tup, retE_lst, retE_bin, 
    retE_cmp, retE_ch, retE_and, retE_or, retE_not, retE_ife, retE_call, retE_bf, retE_isi, retE_ix, retE_sl, retE_lc, brw_v, brw_k, brw_g, brw_neg, brw_tup, 
    brw_lst, brw_bin, brw_cmp, brw_ch, brw_and, brw_or, brw_not, brw_ife, brw_call, brw_bf, brw_isi, brw_ix, brw_sl, brw_lc, brw_vals, brw_ge, brw_dnew, brw_me, 
    bd_ok, bd_ok', exO_ok, exO_ok', lift_some, slotV_sh, slotB_sh, slotB_ow, toB_ok, toB_ok', ok_def, sc, callR_ok, bin_add, bin_sub, bin_mul, bin_div, bin_mod, 
    bf_len_l, bf_len_t, bf_len_d, bf_list_l, bf_list_t, bf_list_d, bf_tuple_l, bf_dict_d, bf_max, bf_int_b, cmp_gt, cmp_lt, cmp_le, cmp_ge, cmp_eqi, cmp_eqs, 
    cmp_nes, cmp_is, ix_l, ix_t, trE_ok, truthE, mul_l, mul_r, putS, mutOld_no, mutOld_sh, mutOld_ow, slotOf_t, slotOf_f, frzE, stiE, appE, keyOf_int0, isSc_int, 
    isSc_str, isSc_none, isSc_bool, noMut_int, noMut_str, noMut_none, noMut_bool, noMut_list, noMut_dict, List.getElem?_cons_succ, List.getElem?_cons_zero, 
    List.set_cons_succ, List.set_cons_zero, List.length_cons, List.length_nil, List.length_map, Nat.reduceAdd, Nat.reduceLT, Int.reduceLT, Int.reduceMul, 
    Int.reduceAdd, Int.reduceSub, Int.reduceNeg, Int.reduceLE, Int.reduceToNat, Nat.reducePow, Int.reducePow, Option.bind_some, bin_pow, bin_add_t, bin_add_l, 
    bin_add_s, sl_t, sl_l, isOwL_t, atI2, atI2i, isOw_t, and_self, true_and, and_true, if_true, if_false, Bool.false_eq_true, decide_true, decide_false, 
    decide_eq_true_eq, Option.map_some, Bool.or_true, Bool.true_and, Bool.and_true, Bool.false_or, Bool.or_false, Bool.false_and, Bool.and_false, Bool.true_or, 
    Bool.or_self, Bool.and_self, seqO_nx, seqO_rt, seqO_er, evSv_r, evSv_l, items_l, items_t, evS_l, evS_r, callK_ok, callK_b0, callK_b1, callK_b2, callK_b3, 
    callK_b4, eq_self, Int.toNat_natCast, isi_none_tuple_list, isi_none_tuple, isi_none_list, isi_none_str, isi_none_int, isi_none_bool, isi_none_dict, 
    isi_bool_tuple_list, isi_bool_tuple, isi_bool_list, isi_bool_str, isi_bool_int, isi_bool_bool, isi_bool_dict, isi_int_tuple_list, isi_int_tuple, isi_int_list, 
    isi_int_str, isi_int_int, isi_int_bool, isi_int_dict, isi_str_tuple_list, isi_str_tuple, isi_str_list, isi_str_str, isi_str_int, isi_str_bool, isi_str_dict, 
    isi_list_tuple_list, isi_list_tuple, isi_list_list, isi_list_str, isi_list_int, isi_list_bool, isi_list_dict, isi_tuple_tuple_list, isi_tuple_tuple, 
    isi_tuple_list, isi_tuple_str, isi_tuple_int, isi_tuple_bool, isi_tuple_dict, isi_dict_tuple_list, isi_dict_tuple, isi_dict_list, isi_dict_str, isi_dict_int, 
    isi_dict_bool, isi_dict_dict, cmp_nei, cmp_neb, cmp_eqb, cmp_isb, cmp_isnb, cmp_in_d, cmp_nin_d, ix_d, bf_all_l, Int.cast_ofNat_Int, Int.ofNat_zero, 
    Int.ofNat_one, Int.reduceEq, Int.reduceNe, Nat.reduceEqDiff, not_true_eq_false, not_false_eq_true, Bool.not_true, Bool.not_false, Bool.not_not, 
    Option.isSome_some, Option.isSome_none, Bool.not_eq_true, Bool.and_eq_true, Bool.or_eq_true, Bool.not_eq_false, putAll_nil, putAll_cons, hideE, evC_so, cmp_nn, 
    cmp_en, bf_sorted, evSt_tl, evTl_set, evTl_tst, evTl_wrk, loE_cons, loE_nil, loS_no, loS_sh, loS_ow, oldFree_nil, oldFree_no, oldFree_sh, oldFree_ow, ne_eq, 
    evE_neg, bf_min, evE_g, at_last, cut_init, evO_so, cmp_isnot, evSt_mat, evCs_nil, putB_nil, bf_max_l, mu_sp_is_number, n_sp_is_number, kd_sp_is_number, 
    mu_sp_thing_of, n_sp_thing_of, kd_sp_thing_of, mu_sp_is_box, n_sp_is_box, kd_sp_is_box, mu_sp_is_function, n_sp_is_function, kd_sp_is_function, mu_sp_new_number, 
    n_sp_new_number, kd_sp_new_number, mu_sp_spoken, n_sp_spoken, kd_sp_spoken, mu_sp_reckoned, n_sp_reckoned, kd_sp_reckoned, mu_sp_lacks_own, n_sp_lacks_own, 
    kd_sp_lacks_own, mu_sp_is_wrong_kind, n_sp_is_wrong_kind, kd_sp_is_wrong_kind, mu_sp_is_too_great, n_sp_is_too_great, kd_sp_is_too_great, mu_sp_is_full, 
    n_sp_is_full, kd_sp_is_full, mu_sp_stuck_word, n_sp_stuck_word, kd_sp_stuck_word, mu_sp_push, n_sp_push, kd_sp_push, mu_sp_keep, n_sp_keep, kd_sp_keep, 
    mu_sp_push_new, n_sp_push_new, kd_sp_push_new, mu_sp_go, n_sp_go, kd_sp_go, mu_sp_own_values, n_sp_own_values, kd_sp_own_values, mu_sp_do_instruction, 
    n_sp_do_instruction, kd_sp_do_instruction, mu_sp_stepped, n_sp_stepped, kd_sp_stepped, mu_sp__law_cell, n_sp__law_cell, kd_sp__law_cell, mu_sp__law_raw, 
    n_sp__law_raw, kd_sp__law_raw, mu_sp__law_whole, n_sp__law_whole, kd_sp__law_whole, mu_sp__law_number, n_sp__law_number, kd_sp__law_number, mu_sp__law_value, 
    n_sp__law_value, kd_sp__law_value, mu_sp__law_values, n_sp__law_values, kd_sp__law_values, mu_sp__law_names, n_sp__law_names, kd_sp__law_names, 
    mu_sp__law_things, n_sp__law_things, kd_sp__law_things, mu_sp__law_frame, n_sp__law_frame, kd_sp__law_frame, mu_sp__law_frames, n_sp__law_frames, 
    kd_sp__law_frames, mu_sp__law_row, n_sp__law_row, kd_sp__law_row, mu_sp__law_program, n_sp__law_program, kd_sp__law_program, mu_sp__law_state, n_sp__law_state, 
    kd_sp__law_state, mu_sp__law_topped, n_sp__law_topped, kd_sp__law_topped, mu_sp__law_same_things, n_sp__law_same_things, kd_sp__law_same_things, 
    mu_sp__law_same_state, n_sp__law_same_state, kd_sp__law_same_state, mu_sp__law_copy, n_sp__law_copy, kd_sp__law_copy, mu_sp__law_is_box, n_sp__law_is_box, 
    kd_sp__law_is_box, mu_sp__law_due, n_sp__law_due, kd_sp__law_due, mu_sp_law, n_sp_law, kd_sp_law, mu_sp__law_alike, n_sp__law_alike, kd_sp__law_alike, $ls,*])
local macro_rules | `(tactic| simp!) => `(tactic| simp only [lit_inj, shaped_lit, small_lit, len_lit, String.reduceEq, Nat.reduceLeDiff, upK_t, upK_f, noMutI_l, noMutI_d, evE_call, evE_v, evE_k, evE_dnew, evE_tup, evE_lst, 
    evE_bin, evE_cmp, evE_ch, evE_and, evE_or, andK_ok, orK_ok, evE_not, evE_ife, evE_bf, evE_isi, evE_ix, evE_sl, evE_vals, evE_me, evL_nil, evL_cons, evBL_nil, 
    evBL_cons, evO_no, evO_k, evT_def, evB_def, evSt_set, evSt_ife, evSt_ret, evSt_frz, evSt_app, evSt_sti, evSt_unp, retE_v, retE_k, retE_tup, retE_lst, retE_bin, 
    retE_cmp, retE_ch, retE_and, retE_or, retE_not, retE_ife, retE_call, retE_bf, retE_isi, retE_ix, retE_sl, retE_lc, brw_v, brw_k, brw_g, brw_neg, brw_tup, 
    brw_lst, brw_bin, brw_cmp, brw_ch, brw_and, brw_or, brw_not, brw_ife, brw_call, brw_bf, brw_isi, brw_ix, brw_sl, brw_lc, brw_vals, brw_ge, brw_dnew, brw_me, 
    bd_ok, bd_ok', exO_ok, exO_ok', lift_some, slotV_sh, slotB_sh, slotB_ow, toB_ok, toB_ok', ok_def, sc, callR_ok, bin_add, bin_sub, bin_mul, bin_div, bin_mod, 
    bf_len_l, bf_len_t, bf_len_d, bf_list_l, bf_list_t, bf_list_d, bf_tuple_l, bf_dict_d, bf_max, bf_int_b, cmp_gt, cmp_lt, cmp_le, cmp_ge, cmp_eqi, cmp_eqs, 
    cmp_nes, cmp_is, ix_l, ix_t, trE_ok, truthE, mul_l, mul_r, putS, mutOld_no, mutOld_sh, mutOld_ow, slotOf_t, slotOf_f, frzE, stiE, appE, keyOf_int0, isSc_int, 
    isSc_str, isSc_none, isSc_bool, noMut_int, noMut_str, noMut_none, noMut_bool, noMut_list, noMut_dict, List.getElem?_cons_succ, List.getElem?_cons_zero, 
    List.set_cons_succ, List.set_cons_zero, List.length_cons, List.length_nil, List.length_map, Nat.reduceAdd, Nat.reduceLT, Int.reduceLT, Int.reduceMul, 
    Int.reduceAdd, Int.reduceSub, Int.reduceNeg, Int.reduceLE, Int.reduceToNat, Nat.reducePow, Int.reducePow, Option.bind_some, bin_pow, bin_add_t, bin_add_l, 
    bin_add_s, sl_t, sl_l, isOwL_t, atI2, atI2i, isOw_t, and_self, true_and, and_true, if_true, if_false, Bool.false_eq_true, decide_true, decide_false, 
    decide_eq_true_eq, Option.map_some, Bool.or_true, Bool.true_and, Bool.and_true, Bool.false_or, Bool.or_false, Bool.false_and, Bool.and_false, Bool.true_or, 
    Bool.or_self, Bool.and_self, seqO_nx, seqO_rt, seqO_er, evSv_r, evSv_l, items_l, items_t, evS_l, evS_r, callK_ok, callK_b0, callK_b1, callK_b2, callK_b3, 
    callK_b4, eq_self, Int.toNat_natCast, isi_none_tuple_list, isi_none_tuple, isi_none_list, isi_none_str, isi_none_int, isi_none_bool, isi_none_dict, 
    isi_bool_tuple_list, isi_bool_tuple, isi_bool_list, isi_bool_str, isi_bool_int, isi_bool_bool, isi_bool_dict, isi_int_tuple_list, isi_int_tuple, isi_int_list, 
    isi_int_str, isi_int_int, isi_int_bool, isi_int_dict, isi_str_tuple_list, isi_str_tuple, isi_str_list, isi_str_str, isi_str_int, isi_str_bool, isi_str_dict, 
    isi_list_tuple_list, isi_list_tuple, isi_list_list, isi_list_str, isi_list_int, isi_list_bool, isi_list_dict, isi_tuple_tuple_list, isi_tuple_tuple, 
    isi_tuple_list, isi_tuple_str, isi_tuple_int, isi_tuple_bool, isi_tuple_dict, isi_dict_tuple_list, isi_dict_tuple, isi_dict_list, isi_dict_str, isi_dict_int, 
    isi_dict_bool, isi_dict_dict, cmp_nei, cmp_neb, cmp_eqb, cmp_isb, cmp_isnb, cmp_in_d, cmp_nin_d, ix_d, bf_all_l, Int.cast_ofNat_Int, Int.ofNat_zero, 
    Int.ofNat_one, Int.reduceEq, Int.reduceNe, Nat.reduceEqDiff, not_true_eq_false, not_false_eq_true, Bool.not_true, Bool.not_false, Bool.not_not, 
    Option.isSome_some, Option.isSome_none, Bool.not_eq_true, Bool.and_eq_true, Bool.or_eq_true, Bool.not_eq_false, putAll_nil, putAll_cons, hideE, evC_so, cmp_nn, 
    cmp_en, bf_sorted, evSt_tl, evTl_set, evTl_tst, evTl_wrk, loE_cons, loE_nil, loS_no, loS_sh, loS_ow, oldFree_nil, oldFree_no, oldFree_sh, oldFree_ow, ne_eq, 
    evE_neg, bf_min, evE_g, at_last, cut_init, evO_so, cmp_isnot, evSt_mat, evCs_nil, putB_nil, bf_max_l, mu_sp_is_number, n_sp_is_number, kd_sp_is_number, 
    mu_sp_thing_of, n_sp_thing_of, kd_sp_thing_of, mu_sp_is_box, n_sp_is_box, kd_sp_is_box, mu_sp_is_function, n_sp_is_function, kd_sp_is_function, mu_sp_new_number, 
    n_sp_new_number, kd_sp_new_number, mu_sp_spoken, n_sp_spoken, kd_sp_spoken, mu_sp_reckoned, n_sp_reckoned, kd_sp_reckoned, mu_sp_lacks_own, n_sp_lacks_own, 
    kd_sp_lacks_own, mu_sp_is_wrong_kind, n_sp_is_wrong_kind, kd_sp_is_wrong_kind, mu_sp_is_too_great, n_sp_is_too_great, kd_sp_is_too_great, mu_sp_is_full, 
    n_sp_is_full, kd_sp_is_full, mu_sp_stuck_word, n_sp_stuck_word, kd_sp_stuck_word, mu_sp_push, n_sp_push, kd_sp_push, mu_sp_keep, n_sp_keep, kd_sp_keep, 
    mu_sp_push_new, n_sp_push_new, kd_sp_push_new, mu_sp_go, n_sp_go, kd_sp_go, mu_sp_own_values, n_sp_own_values, kd_sp_own_values, mu_sp_do_instruction, 
    n_sp_do_instruction, kd_sp_do_instruction, mu_sp_stepped, n_sp_stepped, kd_sp_stepped, mu_sp__law_cell, n_sp__law_cell, kd_sp__law_cell, mu_sp__law_raw, 
    n_sp__law_raw, kd_sp__law_raw, mu_sp__law_whole, n_sp__law_whole, kd_sp__law_whole, mu_sp__law_number, n_sp__law_number, kd_sp__law_number, mu_sp__law_value, 
    n_sp__law_value, kd_sp__law_value, mu_sp__law_values, n_sp__law_values, kd_sp__law_values, mu_sp__law_names, n_sp__law_names, kd_sp__law_names, 
    mu_sp__law_things, n_sp__law_things, kd_sp__law_things, mu_sp__law_frame, n_sp__law_frame, kd_sp__law_frame, mu_sp__law_frames, n_sp__law_frames, 
    kd_sp__law_frames, mu_sp__law_row, n_sp__law_row, kd_sp__law_row, mu_sp__law_program, n_sp__law_program, kd_sp__law_program, mu_sp__law_state, n_sp__law_state, 
    kd_sp__law_state, mu_sp__law_topped, n_sp__law_topped, kd_sp__law_topped, mu_sp__law_same_things, n_sp__law_same_things, kd_sp__law_same_things, 
    mu_sp__law_same_state, n_sp__law_same_state, kd_sp__law_same_state, mu_sp__law_copy, n_sp__law_copy, kd_sp__law_copy, mu_sp__law_is_box, n_sp__law_is_box, 
    kd_sp__law_is_box, mu_sp__law_due, n_sp__law_due, kd_sp__law_due, mu_sp_law, n_sp_law, kd_sp_law, mu_sp__law_alike, n_sp__law_alike, kd_sp__law_alike])
theorem value_ok (s ns : List Int) (k : Int) (hl : s.length ≤ 64) (hns : ns.length ≤ 1000) : ∃ d, VD ns d ∧ sp__law_value.F [.list (s.map .int), .int k, .list (ns.map .int)] = some (.ok (d, [])) := by
  have hk : ∃ ft : R.FT, ft.fn "_law_cell" = some sp__law_cell ∧ ft.fn "_law_number" = some sp__law_number ∧ sp__law_value.F [.list (s.map .int), .int k, .list (ns.map .int)] = endD ⟨3, [], ⟨false, true⟩, fun _ => none⟩ (evSl ft b__law_value [.sh false (.list (s.map .int)), .sh false (.int k), .sh false (.list (ns.map .int)), .no]) := ⟨_, rfl, rfl, un__law_value _ _ _⟩
  obtain ⟨ft, f1, f2, hk⟩ := hk
  rw [hk]
  apply EndsK.fin
  unfold b__law_value
  (rw [evSl_cons]; simp! [f1, fun k => cell_ok s k hl])
  obtain ⟨_, ⟨z, rfl, hz0⟩, hz⟩ := number_ok s k hl
  cases hns' : ns with
  | nil =>
    rw [evSl_cons]
    simp! [evSl_nil, cmp_ne0 [], List.map_nil, show cmpE .NotEq (false, .list []) (true, .list []) = some false from rfl]
    (rw [evSl_cons]; simp! [f2, hz])
    exact EndsK.nm (.inl ⟨z, rfl, hz0⟩) rfl
  | cons n0 nr =>
    rw [← hns']
    have he : (ns.map PyData.int).isEmpty = false := by rw [hns']; rfl
    have h0 : 0 < (ns.length : Int) := by rw [hns', List.length_cons]; omega
    rw [evSl_cons]
    simp! [evSl_nil, cmp_ne0 ns, he]
    by_cases h : cellF s (k + 3) % 5 < 2
    · rw [if_pos h]
      obtain ⟨x, hx, hx2⟩ := atI_mod (xs := ns.map PyData.int) (i := cellF s (k + 3) / 5) (by rw [hns']; simp)
      obtain ⟨n, hn, rfl⟩ := List.mem_map.mp hx
      rw [List.length_map] at hx2
      (rw [evSl_cons]; simp! [h0, hx2])
      exact EndsK.nm (.inr ⟨n, hn, rfl⟩) rfl
    · rw [if_neg h, seqO_nx]
      (rw [evSl_cons]; simp! [f2, hz])
      exact EndsK.nm (.inl ⟨z, rfl, hz0⟩) rfl
theorem values_ok (s ns : List Int) (k m : Int) (hl : s.length ≤ 64) (hns : ns.length ≤ 1000) (h0 : 0 ≤ m) (h1 : m ≤ 1000) :
    ∃ ds, ds.length = m.toNat ∧ (∀ d, d ∈ ds → VD ns d) ∧ sp__law_values.F [.list (s.map .int), .int k, .int m, .list (ns.map .int)] = some (.ok (.tuple ds, [])) := by
  have hk : ∃ ft : R.FT, ft.fn "_law_value" = some sp__law_value ∧ sp__law_values.F [.list (s.map .int), .int k, .int m, .list (ns.map .int)] = endD ⟨4, [], ⟨false, true⟩, fun _ => none⟩ (evSl ft b__law_values [.sh false (.list (s.map .int)), .sh false (.int k), .sh false (.int m), .sh false (.list (ns.map .int)), .no]) := ⟨_, rfl, un__law_values _ _ _ _⟩
  obtain ⟨ft, f1, hk⟩ := hk
  rw [hk]
  unfold b__law_values
  obtain ⟨b, rs, e, l, q⟩ := lc_all (ft := ft) (i := 4) (src := .r (.v 2)) (e := .call "_law_value" (.cons (.v 0) (.cons (.bin .Add (.v 1) (.bin .Mult (.k (.int 11)) (.v 4))) (.cons (.v 3) .nil)))) (env := [.sh false (.list (s.map .int)), .sh false (.int k), .sh false (.int m), .sh false (.list (ns.map .int)), .no]) (f := true) (ds := (List.range m.toNat).map fun j => .int (j : Nat)) (Pr := VD ns)
    (by simp! [rangeE_ok h0 h1]) (by simp) (by rw [range_len]; exact lenOk_of (by omega)) (fun d hd => by
      obtain ⟨j, _, rfl⟩ := range_mem hd
      obtain ⟨d, hv, hF⟩ := value_ok s ns (k + 11 * (j : Int)) hl hns
      simp! [f1, hF]
      exact ⟨_, _, rfl, hv⟩)
  refine ⟨rs, by rw [l, range_len], q, ?_⟩
  apply EndsK.eq
  (rw [evSl_cons]; simp! [e])
  exact EndsK.nm rfl (noMutA_of fun d hd => (q d hd).nm)
theorem ints_of : ∀ {rs : List R.D}, (∀ r, r ∈ rs → ∃ z, r = .int z) → ∃ ns : List Int, rs = ns.map .int
  | [], _ => ⟨[], rfl⟩
  | r :: rs, h => by
    obtain ⟨z, e⟩ := h r List.mem_cons_self
    obtain ⟨ns, e2⟩ := ints_of (rs := rs) fun x hx => h x (List.mem_cons_of_mem _ hx)
    exact ⟨z :: ns, by rw [e, e2]; rfl⟩
theorem ints_ofP {P : Int → Prop} : ∀ {rs : List R.D}, (∀ r, r ∈ rs → ∃ z, P z ∧ r = .int z) → ∃ ns : List Int, rs = ns.map .int ∧ ∀ n, n ∈ ns → P n
  | [], _ => ⟨[], rfl, by simp⟩
  | r :: rs, h => by
    obtain ⟨z, hz, e⟩ := h r List.mem_cons_self
    obtain ⟨ns, e2, h2⟩ := ints_ofP (rs := rs) fun x hx => h x (List.mem_cons_of_mem _ hx)
    refine ⟨z :: ns, by rw [e, e2]; rfl, fun n hn => ?_⟩
    rcases List.mem_cons.mp hn with q | q
    · rw [q]; exact hz
    · exact h2 n q
theorem revE_l {env : R.Env1} {i : Nat} {n f : Bool} {xs : List R.D} (h : env[i]? = some (.ow n f (.list xs))) : revE env i = some (env.set i (.ow n f (.list xs.reverse))) := by
  unfold revE; rw [h]
theorem evSt_rev {ft : R.FT} {n : Nat} {env : R.Env1} : evSt ft (.rev n) env = (revE env n).map .nx := Eq.trans rfl rfl
def many4 : List Int := [40, 40, 40, 130]
theorem names_ok (s : List Int) (hl : s.length ≤ 64) : ∃ ns : List Int, (ns.length ≤ 130 ∧ ∀ n, n ∈ ns → 0 ≤ n) ∧ sp__law_names.F [.list (s.map .int)] = some (.ok (.list (ns.map .int), [])) := by
  have hk : ∃ ft : R.FT, ft.fn "_law_cell" = some sp__law_cell ∧ sp__law_names.F [.list (s.map .int)] = endD ⟨1, [], ⟨false, false⟩, fun _ => none⟩ (evSl ft b__law_names [.sh false (.list (s.map .int)), .no, .no, .no, .no, .no]) := ⟨_, rfl, un__law_names _⟩
  obtain ⟨ft, f1, hk⟩ := hk
  suffices h : ∃ d, (∃ ns : List Int, (ns.length ≤ 130 ∧ ∀ n, n ∈ ns → 0 ≤ n) ∧ d = .list (ns.map .int)) ∧ sp__law_names.F [.list (s.map .int)] = some (.ok (d, [])) by
    obtain ⟨_, ⟨ns, h1, rfl⟩, h2⟩ := h
    exact ⟨ns, h1, h2⟩
  rw [hk]
  apply Ends.fin
  unfold b__law_names
  (rw [evSl_cons]; simp! [f1, fun k => cell_ok s k hl])
  generalize cellF s 1 = c
  (rw [evSl_cons]; simp!)
  have hc := Int.emod_nonneg c (show (7 : Int) ≠ 0 by decide)
  have hc2 := Int.emod_lt_of_pos c (show (0 : Int) < 7 by decide)
  rw [evSl_cons]
  simp! [evSl_nil]
  refine join_cps (fun e => ∃ n : Int, 0 ≤ n ∧ n ≤ 130 ∧ e = [.sh false (.list (s.map .int)), .sh true (.int c), .sh true (.int n), .no, .no, .no]) ?_ ?_
  · split
    · obtain ⟨x, hx, hx2⟩ := atI_mod (xs := many4.map PyData.int) (i := c / 112) (by decide)
      obtain ⟨z, hz, rfl⟩ := List.mem_map.mp hx
      have hx3 : L2.atI [PyData.int 40, PyData.int 40, PyData.int 40, PyData.int 130] (c / 112 % 4) = some (.int z) := hx2
      have hz2 : 0 ≤ z ∧ z ≤ 130 := (show ∀ z, z ∈ many4 → 0 ≤ z ∧ z ≤ 130 by unfold many4; decide) z hz
      (rw [evSl_cons]; simp! [hx3])
      exact Nxt.nil ⟨z, hz2.1, hz2.2, rfl⟩
    · exact Nxt.mk ⟨c % 7, hc, by omega, rfl⟩
  rintro _ ⟨n, n0, n1, rfl⟩
  (rw [evSl_cons]; simp!)
  (rw [evSl_cons]; simp!)
  have t0 := Int.emod_nonneg (c / 112) (show (5 : Int) ≠ 0 by decide)
  have t1 := Int.emod_lt_of_pos (c / 112) (show (0 : Int) < 5 by decide)
  have ht : smallI (1 + c / 112 % 5) = true := small_of (by omega) (by omega)
  have tp : 0 ≤ 1 + c / 112 % 5 := by omega
  have up := Int.emod_nonneg (c / 560) (show (30 : Int) ≠ 0 by decide)
  generalize 1 + c / 112 % 5 = t at ht tp
  obtain ⟨b, rs, e, l, q⟩ := lc_all (ft := ft) (i := 5) (src := .r (.v 2)) (e := .bin .Add (.bin .Mod (.bin .FloorDiv (.v 1) (.k (.int 560))) (.k (.int 30))) (.bin .Mult (.v 3) (.v 5))) (env := [.sh false (.list (s.map .int)), .sh true (.int c), .sh true (.int n), .sh true (.int t), .no, .no]) (f := true) (ds := (List.range n.toNat).map fun j => .int (j : Nat)) (Pr := fun r => ∃ z : Int, 0 ≤ z ∧ r = .int z)
    (by simp! [rangeE_ok n0 (show n ≤ 1000 by omega)]) (by simp) (by rw [range_len]; exact lenOk_of (by omega)) (fun d hd => by
      obtain ⟨j, _, rfl⟩ := range_mem hd
      simp! [ht]
      exact ⟨_, _, rfl, _, Int.add_nonneg up (Int.mul_nonneg tp (Int.natCast_nonneg _)), rfl⟩)
  obtain ⟨ns, rfl, np⟩ := ints_ofP q
  rw [List.length_map, range_len] at l
  (rw [evSl_cons]; simp! [e])
  rw [evSl_cons]
  simp! [evSl_nil]
  refine join_cps (fun e => ∃ ns' : List Int, (ns'.length = ns.length ∧ ∀ n, n ∈ ns' → 0 ≤ n) ∧ e = [.sh false (.list (s.map .int)), .sh true (.int c), .sh true (.int n), .sh true (.int t), .ow true b (.list (ns'.map .int)), .no]) ?_ ?_
  · split
    · rw [evSl_cons, evSt_rev, revE_l rfl]
      simp! [evSl_nil]
      exact Nxt.mk ⟨ns.reverse, ⟨List.length_reverse, fun n hn => np n (List.mem_reverse.mp hn)⟩, by rw [List.map_reverse]⟩
    · exact Nxt.mk ⟨ns, ⟨rfl, np⟩, rfl⟩
  rintro _ ⟨ns', l', rfl⟩
  (rw [evSl_cons]; simp!)
  exact Ends.mk ⟨ns', ⟨by omega, l'.2⟩, rfl⟩
end K03RWA
namespace K03RWA
open PySem PySem.Spec PyProof.Rows L2 R
def ThD (ns : List Int) (nb : Int) (d : R.D) : Prop := (∃ v, VD ns v ∧ d = .tuple [.str "box", v]) ∨ ∃ b ks, 0 ≤ b ∧ b < nb ∧ ks.length ≤ 8 ∧ (∀ v, v ∈ ks → VD ns v) ∧ d = .tuple [.str "fun", .int b, .tuple ks]
structure TsD (ns : List Int) (nb : Int) (es : List (R.D × R.D)) : Prop where
  key : ∀ e, e ∈ es → ∃ n, n ∈ ns ∧ e.1 = .int n
  val : ∀ e, e ∈ es → ThD ns nb e.2
  nd : (es.map (·.1)).Nodup
  len : es.length ≤ 1000
theorem TsD.put {ns : List Int} {nb : Int} {es : List (R.D × R.D)} {n : Int} {d : R.D} (T : TsD ns nb es) (hn : n ∈ ns) (hd : ThD ns nb d) (hl : es.length < 1000) : TsD ns nb (dputE es (.inl n) d) := by
  refine ⟨fun e h => ?_, fun e h => ?_, dput_nodup T.nd, by have := dput_len (es := es) (k := .inl n) (d := d); omega⟩
  · rcases dput_mem h with z | z
    · exact ⟨n, hn, keyD_of z.1⟩
    · exact T.key e z
  · rcases dput_mem h with z | z
    · rw [z.2]; exact hd
    · exact T.val e z
local macro_rules | `(tactic| simp! [$ls,*]) => `(tactic| simp only [lit_inj, shaped_lit, small_lit, len_lit, String.reduceEq, Nat.reduceLeDiff, upK_t, upK_f, noMutI_l, noMutI_d, evE_call, evE_v, evE_k, evE_dnew, evE_tup, evE_lst, 
    evE_bin, evE_cmp, evE_ch, evE_and, evE_or, andK_ok, orK_ok, evE_not, evE_ife, evE_bf, evE_isi, evE_ix, evE_sl, evE_vals, evE_me, evL_nil, evL_cons, evBL_nil, 
    evBL_cons, evO_no, evO_k, evT_def, evB_def, evSt_set, evSt_ife, evSt_ret, evSt_frz, evSt_app, evSt_sti, evSt_unp, retE_v, retE_k, retE_tup, retE_lst, retE_bin, 
    retE_cmp, retE_ch, retE_and, retE_or, retE_not, retE_ife, retE_call, retE_bf, retE_isi, retE_ix, retE_sl, retE_lc, brw_v, brw_k, brw_g, brw_neg, brw_tup, 
    brw_lst, brw_bin, brw_cmp, brw_ch, brw_and, brw_or, brw_not, brw_ife, brw_call, brw_bf, brw_isi, brw_ix, brw_sl, brw_lc, brw_vals, brw_ge, brw_dnew, brw_me, 
    bd_ok, bd_ok', exO_ok, exO_ok', lift_some, slotV_sh, slotB_sh, slotB_ow, toB_ok, toB_ok', ok_def, sc, callR_ok, bin_add, bin_sub, bin_mul, bin_div, bin_mod, 
    bf_len_l, bf_len_t, bf_len_d, bf_list_l, bf_list_t, bf_list_d, bf_tuple_l, bf_dict_d, bf_max, bf_int_b, cmp_gt, cmp_lt, cmp_le, cmp_ge, cmp_eqi, cmp_eqs, 
    cmp_nes, cmp_is, ix_l, ix_t, trE_ok, truthE, mul_l, mul_r, putS, mutOld_no, mutOld_sh, mutOld_ow, slotOf_t, slotOf_f, frzE, stiE, appE, keyOf_int0, isSc_int, 
    isSc_str, isSc_none, isSc_bool, noMut_int, noMut_str, noMut_none, noMut_bool, noMut_list, noMut_dict, List.getElem?_cons_succ, List.getElem?_cons_zero, 
    List.set_cons_succ, List.set_cons_zero, List.length_cons, List.length_nil, List.length_map, Nat.reduceAdd, Nat.reduceLT, Int.reduceLT, Int.reduceMul, 
    Int.reduceAdd, Int.reduceSub, Int.reduceNeg, Int.reduceLE, Int.reduceToNat, Nat.reducePow, Int.reducePow, Option.bind_some, bin_pow, bin_add_t, bin_add_l, 
    bin_add_s, sl_t, sl_l, isOwL_t, atI2, atI2i, isOw_t, and_self, true_and, and_true, if_true, if_false, Bool.false_eq_true, decide_true, decide_false, 
    decide_eq_true_eq, Option.map_some, Bool.or_true, Bool.true_and, Bool.and_true, Bool.false_or, Bool.or_false, Bool.false_and, Bool.and_false, Bool.true_or, 
    Bool.or_self, Bool.and_self, seqO_nx, seqO_rt, seqO_er, evSv_r, evSv_l, items_l, items_t, evS_l, evS_r, callK_ok, callK_b0, callK_b1, callK_b2, callK_b3, 
    callK_b4, eq_self, Int.toNat_natCast, isi_none_tuple_list, isi_none_tuple, isi_none_list, isi_none_str, isi_none_int, isi_none_bool, isi_none_dict, 
    isi_bool_tuple_list, isi_bool_tuple, isi_bool_list, isi_bool_str, isi_bool_int, isi_bool_bool, isi_bool_dict, isi_int_tuple_list, isi_int_tuple, isi_int_list, 
    isi_int_str, isi_int_int, isi_int_bool, isi_int_dict, isi_str_tuple_list, isi_str_tuple, isi_str_list, isi_str_str, isi_str_int, isi_str_bool, isi_str_dict, 
    isi_list_tuple_list, isi_list_tuple, isi_list_list, isi_list_str, isi_list_int, isi_list_bool, isi_list_dict, isi_tuple_tuple_list, isi_tuple_tuple, 
    isi_tuple_list, isi_tuple_str, isi_tuple_int, isi_tuple_bool, isi_tuple_dict, isi_dict_tuple_list, isi_dict_tuple, isi_dict_list, isi_dict_str, isi_dict_int, 
    isi_dict_bool, isi_dict_dict, cmp_nei, cmp_neb, cmp_eqb, cmp_isb, cmp_isnb, cmp_in_d, cmp_nin_d, ix_d, bf_all_l, Int.cast_ofNat_Int, Int.ofNat_zero, 
    Int.ofNat_one, Int.reduceEq, Int.reduceNe, Nat.reduceEqDiff, not_true_eq_false, not_false_eq_true, Bool.not_true, Bool.not_false, Bool.not_not, 
    Option.isSome_some, Option.isSome_none, Bool.not_eq_true, Bool.and_eq_true, Bool.or_eq_true, Bool.not_eq_false, putAll_nil, putAll_cons, hideE, evC_so, cmp_nn, 
    cmp_en, bf_sorted, evSt_tl, evTl_set, evTl_tst, evTl_wrk, loE_cons, loE_nil, loS_no, loS_sh, loS_ow, oldFree_nil, oldFree_no, oldFree_sh, oldFree_ow, ne_eq, 
    evE_neg, bf_min, evE_g, at_last, cut_init, evO_so, cmp_isnot, evSt_mat, evCs_nil, putB_nil, bf_max_l, mu_sp_is_number, n_sp_is_number, kd_sp_is_number, 
    mu_sp_thing_of, n_sp_thing_of, kd_sp_thing_of, mu_sp_is_box, n_sp_is_box, kd_sp_is_box, mu_sp_is_function, n_sp_is_function, kd_sp_is_function, mu_sp_new_number, 
    n_sp_new_number, kd_sp_new_number, mu_sp_spoken, n_sp_spoken, kd_sp_spoken, mu_sp_reckoned, n_sp_reckoned, kd_sp_reckoned, mu_sp_lacks_own, n_sp_lacks_own, 
    kd_sp_lacks_own, mu_sp_is_wrong_kind, n_sp_is_wrong_kind, kd_sp_is_wrong_kind, mu_sp_is_too_great, n_sp_is_too_great, kd_sp_is_too_great, mu_sp_is_full, 
    n_sp_is_full, kd_sp_is_full, mu_sp_stuck_word, n_sp_stuck_word, kd_sp_stuck_word, mu_sp_push, n_sp_push, kd_sp_push, mu_sp_keep, n_sp_keep, kd_sp_keep, 
    mu_sp_push_new, n_sp_push_new, kd_sp_push_new, mu_sp_go, n_sp_go, kd_sp_go, mu_sp_own_values, n_sp_own_values, kd_sp_own_values, mu_sp_do_instruction, 
    n_sp_do_instruction, kd_sp_do_instruction, mu_sp_stepped, n_sp_stepped, kd_sp_stepped, mu_sp__law_cell, n_sp__law_cell, kd_sp__law_cell, mu_sp__law_raw, 
    n_sp__law_raw, kd_sp__law_raw, mu_sp__law_whole, n_sp__law_whole, kd_sp__law_whole, mu_sp__law_number, n_sp__law_number, kd_sp__law_number, mu_sp__law_value, 
    n_sp__law_value, kd_sp__law_value, mu_sp__law_values, n_sp__law_values, kd_sp__law_values, mu_sp__law_names, n_sp__law_names, kd_sp__law_names, 
    mu_sp__law_things, n_sp__law_things, kd_sp__law_things, mu_sp__law_frame, n_sp__law_frame, kd_sp__law_frame, mu_sp__law_frames, n_sp__law_frames, 
    kd_sp__law_frames, mu_sp__law_row, n_sp__law_row, kd_sp__law_row, mu_sp__law_program, n_sp__law_program, kd_sp__law_program, mu_sp__law_state, n_sp__law_state, 
    kd_sp__law_state, mu_sp__law_topped, n_sp__law_topped, kd_sp__law_topped, mu_sp__law_same_things, n_sp__law_same_things, kd_sp__law_same_things, 
    mu_sp__law_same_state, n_sp__law_same_state, kd_sp__law_same_state, mu_sp__law_copy, n_sp__law_copy, kd_sp__law_copy, mu_sp__law_is_box, n_sp__law_is_box, 
    kd_sp__law_is_box, mu_sp__law_due, n_sp__law_due, kd_sp__law_due, mu_sp_law, n_sp_law, kd_sp_law, mu_sp__law_alike, n_sp__law_alike, kd_sp__law_alike, $ls,*])
local macro_rules | `(tactic| simp!) => `(tactic| simp only [lit_inj, shaped_lit, small_lit, len_lit, String.reduceEq, Nat.reduceLeDiff, upK_t, upK_f, noMutI_l, noMutI_d, evE_call, evE_v, evE_k, evE_dnew, evE_tup, evE_lst, 
    evE_bin, evE_cmp, evE_ch, evE_and, evE_or, andK_ok, orK_ok, evE_not, evE_ife, evE_bf, evE_isi, evE_ix, evE_sl, evE_vals, evE_me, evL_nil, evL_cons, evBL_nil, 
    evBL_cons, evO_no, evO_k, evT_def, evB_def, evSt_set, evSt_ife, evSt_ret, evSt_frz, evSt_app, evSt_sti, evSt_unp, retE_v, retE_k, retE_tup, retE_lst, retE_bin, 
    retE_cmp, retE_ch, retE_and, retE_or, retE_not, retE_ife, retE_call, retE_bf, retE_isi, retE_ix, retE_sl, retE_lc, brw_v, brw_k, brw_g, brw_neg, brw_tup, 
    brw_lst, brw_bin, brw_cmp, brw_ch, brw_and, brw_or, brw_not, brw_ife, brw_call, brw_bf, brw_isi, brw_ix, brw_sl, brw_lc, brw_vals, brw_ge, brw_dnew, brw_me, 
    bd_ok, bd_ok', exO_ok, exO_ok', lift_some, slotV_sh, slotB_sh, slotB_ow, toB_ok, toB_ok', ok_def, sc, callR_ok, bin_add, bin_sub, bin_mul, bin_div, bin_mod, 
    bf_len_l, bf_len_t, bf_len_d, bf_list_l, bf_list_t, bf_list_d, bf_tuple_l, bf_dict_d, bf_max, bf_int_b, cmp_gt, cmp_lt, cmp_le, cmp_ge, cmp_eqi, cmp_eqs, 
    cmp_nes, cmp_is, ix_l, ix_t, trE_ok, truthE, mul_l, mul_r, putS, mutOld_no, mutOld_sh, mutOld_ow, slotOf_t, slotOf_f, frzE, stiE, appE, keyOf_int0, isSc_int, 
    isSc_str, isSc_none, isSc_bool, noMut_int, noMut_str, noMut_none, noMut_bool, noMut_list, noMut_dict, List.getElem?_cons_succ, List.getElem?_cons_zero, 
    List.set_cons_succ, List.set_cons_zero, List.length_cons, List.length_nil, List.length_map, Nat.reduceAdd, Nat.reduceLT, Int.reduceLT, Int.reduceMul, 
    Int.reduceAdd, Int.reduceSub, Int.reduceNeg, Int.reduceLE, Int.reduceToNat, Nat.reducePow, Int.reducePow, Option.bind_some, bin_pow, bin_add_t, bin_add_l, 
    bin_add_s, sl_t, sl_l, isOwL_t, atI2, atI2i, isOw_t, and_self, true_and, and_true, if_true, if_false, Bool.false_eq_true, decide_true, decide_false, 
    decide_eq_true_eq, Option.map_some, Bool.or_true, Bool.true_and, Bool.and_true, Bool.false_or, Bool.or_false, Bool.false_and, Bool.and_false, Bool.true_or, 
    Bool.or_self, Bool.and_self, seqO_nx, seqO_rt, seqO_er, evSv_r, evSv_l, items_l, items_t, evS_l, evS_r, callK_ok, callK_b0, callK_b1, callK_b2, callK_b3, 
    callK_b4, eq_self, Int.toNat_natCast, isi_none_tuple_list, isi_none_tuple, isi_none_list, isi_none_str, isi_none_int, isi_none_bool, isi_none_dict, 
    isi_bool_tuple_list, isi_bool_tuple, isi_bool_list, isi_bool_str, isi_bool_int, isi_bool_bool, isi_bool_dict, isi_int_tuple_list, isi_int_tuple, isi_int_list, 
    isi_int_str, isi_int_int, isi_int_bool, isi_int_dict, isi_str_tuple_list, isi_str_tuple, isi_str_list, isi_str_str, isi_str_int, isi_str_bool, isi_str_dict, 
    isi_list_tuple_list, isi_list_tuple, isi_list_list, isi_list_str, isi_list_int, isi_list_bool, isi_list_dict, isi_tuple_tuple_list, isi_tuple_tuple, 
    isi_tuple_list, isi_tuple_str, isi_tuple_int, isi_tuple_bool, isi_tuple_dict, isi_dict_tuple_list, isi_dict_tuple, isi_dict_list, isi_dict_str, isi_dict_int, 
    isi_dict_bool, isi_dict_dict, cmp_nei, cmp_neb, cmp_eqb, cmp_isb, cmp_isnb, cmp_in_d, cmp_nin_d, ix_d, bf_all_l, Int.cast_ofNat_Int, Int.ofNat_zero, 
    Int.ofNat_one, Int.reduceEq, Int.reduceNe, Nat.reduceEqDiff, not_true_eq_false, not_false_eq_true, Bool.not_true, Bool.not_false, Bool.not_not, 
    Option.isSome_some, Option.isSome_none, Bool.not_eq_true, Bool.and_eq_true, Bool.or_eq_true, Bool.not_eq_false, putAll_nil, putAll_cons, hideE, evC_so, cmp_nn, 
    cmp_en, bf_sorted, evSt_tl, evTl_set, evTl_tst, evTl_wrk, loE_cons, loE_nil, loS_no, loS_sh, loS_ow, oldFree_nil, oldFree_no, oldFree_sh, oldFree_ow, ne_eq, 
    evE_neg, bf_min, evE_g, at_last, cut_init, evO_so, cmp_isnot, evSt_mat, evCs_nil, putB_nil, bf_max_l, mu_sp_is_number, n_sp_is_number, kd_sp_is_number, 
    mu_sp_thing_of, n_sp_thing_of, kd_sp_thing_of, mu_sp_is_box, n_sp_is_box, kd_sp_is_box, mu_sp_is_function, n_sp_is_function, kd_sp_is_function, mu_sp_new_number, 
    n_sp_new_number, kd_sp_new_number, mu_sp_spoken, n_sp_spoken, kd_sp_spoken, mu_sp_reckoned, n_sp_reckoned, kd_sp_reckoned, mu_sp_lacks_own, n_sp_lacks_own, 
    kd_sp_lacks_own, mu_sp_is_wrong_kind, n_sp_is_wrong_kind, kd_sp_is_wrong_kind, mu_sp_is_too_great, n_sp_is_too_great, kd_sp_is_too_great, mu_sp_is_full, 
    n_sp_is_full, kd_sp_is_full, mu_sp_stuck_word, n_sp_stuck_word, kd_sp_stuck_word, mu_sp_push, n_sp_push, kd_sp_push, mu_sp_keep, n_sp_keep, kd_sp_keep, 
    mu_sp_push_new, n_sp_push_new, kd_sp_push_new, mu_sp_go, n_sp_go, kd_sp_go, mu_sp_own_values, n_sp_own_values, kd_sp_own_values, mu_sp_do_instruction, 
    n_sp_do_instruction, kd_sp_do_instruction, mu_sp_stepped, n_sp_stepped, kd_sp_stepped, mu_sp__law_cell, n_sp__law_cell, kd_sp__law_cell, mu_sp__law_raw, 
    n_sp__law_raw, kd_sp__law_raw, mu_sp__law_whole, n_sp__law_whole, kd_sp__law_whole, mu_sp__law_number, n_sp__law_number, kd_sp__law_number, mu_sp__law_value, 
    n_sp__law_value, kd_sp__law_value, mu_sp__law_values, n_sp__law_values, kd_sp__law_values, mu_sp__law_names, n_sp__law_names, kd_sp__law_names, 
    mu_sp__law_things, n_sp__law_things, kd_sp__law_things, mu_sp__law_frame, n_sp__law_frame, kd_sp__law_frame, mu_sp__law_frames, n_sp__law_frames, 
    kd_sp__law_frames, mu_sp__law_row, n_sp__law_row, kd_sp__law_row, mu_sp__law_program, n_sp__law_program, kd_sp__law_program, mu_sp__law_state, n_sp__law_state, 
    kd_sp__law_state, mu_sp__law_topped, n_sp__law_topped, kd_sp__law_topped, mu_sp__law_same_things, n_sp__law_same_things, kd_sp__law_same_things, 
    mu_sp__law_same_state, n_sp__law_same_state, kd_sp__law_same_state, mu_sp__law_copy, n_sp__law_copy, kd_sp__law_copy, mu_sp__law_is_box, n_sp__law_is_box, 
    kd_sp__law_is_box, mu_sp__law_due, n_sp__law_due, kd_sp__law_due, mu_sp_law, n_sp_law, kd_sp_law, mu_sp__law_alike, n_sp__law_alike, kd_sp__law_alike])
theorem things_ok (s ns : List Int) (nb : Int) (hl : s.length ≤ 64) (hns : ns.length ≤ 900) (hb : 0 < nb) :
    ∃ d, (∃ es, d = .dict es ∧ TsD ns nb es ∧ (∀ n, n ∈ ns → PyData.int n ∈ es.map (·.1)) ∧ es.length ≤ 900) ∧ sp__law_things.F [.list (s.map .int), .list (ns.map .int), .int nb] = some (.ok (d, [])) := by
  have hk : ∃ ft : R.FT, ft.fn "_law_cell" = some sp__law_cell ∧ ft.fn "_law_value" = some sp__law_value ∧ ft.fn "_law_values" = some sp__law_values ∧
    sp__law_things.F [.list (s.map .int), .list (ns.map .int), .int nb] = endD ⟨3, [], ⟨true, true⟩, fun _ => none⟩ (evSl ft b__law_things [.sh false (.list (s.map .int)), .sh false (.list (ns.map .int)), .sh false (.int nb), .no, .no, .no, .no]) := ⟨_, rfl, rfl, rfl, un__law_things _ _ _⟩
  obtain ⟨ft, f1, f2, f3, hk⟩ := hk
  rw [hk]
  apply EndsK.fin
  unfold b__law_things
  (rw [evSl_cons]; simp!)
  rw [evSl_cons, evSt_for1]
  simp! [rangeE_ok (Int.natCast_nonneg ns.length) (show (ns.length : Int) ≤ 1000 by omega)]
  refine loop_cps (fun j e => ∃ es s4 s5 s6, e = [.sh false (.list (s.map .int)), .sh false (.list (ns.map .int)), .sh false (.int nb), .ow true true (.dict es), s4, s5, s6] ∧ mutOld (some s4) = false ∧ mutOld (some s5) = false ∧ mutOld (some s6) = false ∧
    TsD ns nb es ∧ (∀ n, n ∈ ns.take j → PyData.int n ∈ es.map (·.1)) ∧ es.length ≤ j) ⟨_, _, _, _, rfl, rfl, rfl, rfl, ⟨by simp, by simp, by simp, by simp⟩, by simp, by simp⟩ ?_ ?_
  · rintro j e d hd ⟨es, s4, s5, s6, rfl, h4, h5, h6, T, dom, len⟩
    obtain ⟨hj, rfl⟩ := range_at hd
    obtain ⟨n, hn⟩ : ∃ n, ns[j]? = some n := ⟨ns[j], by simp [hj]⟩
    have hx : L2.atI (ns.map PyData.int) (j : Int) = some (.int n) := L2.atI_nat (by rw [List.getElem?_map, hn]; rfl)
    have hm : n ∈ ns := List.mem_of_getElem? hn
    have hle : lenOk es.length = true := lenOk_of (by omega)
    have fin : ∀ d, ThD ns nb d → TsD ns nb (dputE es (.inl n) d) ∧ (∀ x, x ∈ ns.take (j + 1) → PyData.int x ∈ (dputE es (.inl n) d).map (·.1)) ∧ (dputE es (.inl n) d).length ≤ j + 1 := fun d hd => by
      refine ⟨T.put hm hd (by omega), fun x hx => ?_, by have := dput_len (es := es) (k := .inl n) (d := d); omega⟩
      rw [List.take_add_one, hn] at hx
      rcases List.mem_append.mp hx with z | z
      · exact dput_old (dom x z)
      · rw [List.mem_singleton.mp z]
        exact dput_new (k := .inl n)
    refine ⟨[.sh false (.list (s.map .int)), .sh false (.list (ns.map .int)), .sh false (.int nb), .ow true true (.dict es), .sh true (.int j), s5, s6], by simp! [h4], ?_⟩
    (rw [evSl_cons]; simp! [f1, h5, fun k => cell_ok s k hl])
    rw [evSl_cons]
    simp!
    by_cases hc : cellF s (100 + (j : Int)) % 2 = 0
    · obtain ⟨v, hv, hF⟩ := value_ok s ns (200 + (j : Int)) hl (by omega)
      rw [if_pos hc]
      (rw [evSl_cons]; simp! [f2, hF, hx, hle])
      rw [evSl_nil, seqO_nx, evSl_nil]
      exact Nxt.mk ⟨_, _, _, _, rfl, rfl, rfl, h6, fin _ (.inl ⟨v, hv, rfl⟩)⟩
    · have h0 := Int.emod_nonneg (cellF s (100 + (j : Int)) / 2) (show (9 : Int) ≠ 0 by decide)
      have h1 := Int.emod_lt_of_pos (cellF s (100 + (j : Int)) / 2) (show (0 : Int) < 9 by decide)
      obtain ⟨ks, hkl, hv, hF⟩ := values_ok s ns (300 + 5 * (j : Int)) (cellF s (100 + (j : Int)) / 2 % 9) hl (by omega) h0 (by omega)
      rw [if_neg hc]
      (rw [evSl_cons]; simp! [f3, hF, h6])
      (rw [evSl_cons]; simp! [hb, hx, hle])
      rw [evSl_nil, seqO_nx, evSl_nil]
      exact Nxt.mk ⟨_, _, _, _, rfl, rfl, rfl, rfl, fin _ (.inr ⟨_, ks, Int.emod_nonneg _ (by omega), Int.emod_lt_of_pos _ hb, by omega, hv, rfl⟩)⟩
  · rintro e ⟨es, s4, s5, s6, rfl, h4, h5, h6, T, dom, len⟩
    (rw [evSl_cons]; simp!)
    rw [range_len] at len dom
    rw [List.take_length] at dom
    exact EndsK.of ⟨es, rfl, T, dom, by omega⟩
end K03RWA
namespace K03RWA
open PySem PySem.Spec PyProof.Rows L2 R
/-- a tuple of values -/
def VsD (ns : List Int) (n : Nat) (ds : List R.D) : Prop := ds.length ≤ n ∧ ∀ d, d ∈ ds → VD ns d
theorem VsD.join {ns : List Int} {n m : Nat} {xs ys : List R.D} (a : VsD ns n xs) (b : VsD ns m ys) : VsD ns 60 (cutD (xs ++ ys) none (some 60)) := by
  rw [show (some (60 : Int)) = some ((60 : Nat) : Int) from rfl, cut_to]
  refine ⟨by rw [List.length_take]; omega, fun d h => ?_⟩
  rcases List.mem_append.mp (List.mem_of_mem_take h) with z | z
  · exact a.2 d z
  · exact b.2 d z
def FrD (ns : List Int) (bs : List (List R.D)) (d : R.D) : Prop := ∃ (b p : Nat) (own st rows : List R.D), d = .tuple [.int b, .int p, .tuple own, .tuple st] ∧ bs[b]? = some rows ∧ p ≤ rows.length ∧ VsD ns 60 own ∧ VsD ns 60 st
theorem VsD.nm {ns : List Int} {n : Nat} {ds : List R.D} (h : VsD ns n ds) : noMutA ds = true := noMutA_of fun d hd => (h.2 d hd).nm
theorem fr_nm {ns : List Int} {b p : Int} {own st : List R.D} (h1 : VsD ns 60 own) (h2 : VsD ns 60 st) : noMut (.tuple [.int b, .int p, .tuple own, .tuple st]) = true := by
  show (true && (true && (noMutA own && (noMutA st && true)))) = true
  rw [h1.nm, h2.nm]; rfl
theorem nat_of {z : Int} (h : 0 ≤ z) : ∃ n : Nat, z = (n : Int) := Int.eq_ofNat_of_zero_le h
local macro_rules | `(tactic| simp! [$ls,*]) => `(tactic| simp only [lit_inj, shaped_lit, small_lit, len_lit, String.reduceEq, Nat.reduceLeDiff, upK_t, upK_f, noMutI_l, noMutI_d, evE_call, evE_v, evE_k, evE_dnew, evE_tup, evE_lst, 
    evE_bin, evE_cmp, evE_ch, evE_and, evE_or, andK_ok, orK_ok, evE_not, evE_ife, evE_bf, evE_isi, evE_ix, evE_sl, evE_vals, evE_me, evL_nil, evL_cons, evBL_nil, 
    evBL_cons, evO_no, evO_k, evT_def, evB_def, evSt_set, evSt_ife, evSt_ret, evSt_frz, evSt_app, evSt_sti, evSt_unp, retE_v, retE_k, retE_tup, retE_lst, retE_bin, 
    retE_cmp, retE_ch, retE_and, retE_or, retE_not, retE_ife, retE_call, retE_bf, retE_isi, retE_ix, retE_sl, retE_lc, brw_v, brw_k, brw_g, brw_neg, brw_tup, 
    brw_lst, brw_bin, brw_cmp, brw_ch, brw_and, brw_or, brw_not, brw_ife, brw_call, brw_bf, brw_isi, brw_ix, brw_sl, brw_lc, brw_vals, brw_ge, brw_dnew, brw_me, 
    bd_ok, bd_ok', exO_ok, exO_ok', lift_some, slotV_sh, slotB_sh, slotB_ow, toB_ok, toB_ok', ok_def, sc, callR_ok, bin_add, bin_sub, bin_mul, bin_div, bin_mod, 
    bf_len_l, bf_len_t, bf_len_d, bf_list_l, bf_list_t, bf_list_d, bf_tuple_l, bf_dict_d, bf_max, bf_int_b, cmp_gt, cmp_lt, cmp_le, cmp_ge, cmp_eqi, cmp_eqs, 
    cmp_nes, cmp_is, ix_l, ix_t, trE_ok, truthE, mul_l, mul_r, putS, mutOld_no, mutOld_sh, mutOld_ow, slotOf_t, slotOf_f, frzE, stiE, appE, keyOf_int0, isSc_int, 
    isSc_str, isSc_none, isSc_bool, noMut_int, noMut_str, noMut_none, noMut_bool, noMut_list, noMut_dict, List.getElem?_cons_succ, List.getElem?_cons_zero, 
    List.set_cons_succ, List.set_cons_zero, List.length_cons, List.length_nil, List.length_map, Nat.reduceAdd, Nat.reduceLT, Int.reduceLT, Int.reduceMul, 
    Int.reduceAdd, Int.reduceSub, Int.reduceNeg, Int.reduceLE, Int.reduceToNat, Nat.reducePow, Int.reducePow, Option.bind_some, bin_pow, bin_add_t, bin_add_l, 
    bin_add_s, sl_t, sl_l, isOwL_t, atI2, atI2i, isOw_t, and_self, true_and, and_true, if_true, if_false, Bool.false_eq_true, decide_true, decide_false, 
    decide_eq_true_eq, Option.map_some, Bool.or_true, Bool.true_and, Bool.and_true, Bool.false_or, Bool.or_false, Bool.false_and, Bool.and_false, Bool.true_or, 
    Bool.or_self, Bool.and_self, seqO_nx, seqO_rt, seqO_er, evSv_r, evSv_l, items_l, items_t, evS_l, evS_r, callK_ok, callK_b0, callK_b1, callK_b2, callK_b3, 
    callK_b4, eq_self, Int.toNat_natCast, isi_none_tuple_list, isi_none_tuple, isi_none_list, isi_none_str, isi_none_int, isi_none_bool, isi_none_dict, 
    isi_bool_tuple_list, isi_bool_tuple, isi_bool_list, isi_bool_str, isi_bool_int, isi_bool_bool, isi_bool_dict, isi_int_tuple_list, isi_int_tuple, isi_int_list, 
    isi_int_str, isi_int_int, isi_int_bool, isi_int_dict, isi_str_tuple_list, isi_str_tuple, isi_str_list, isi_str_str, isi_str_int, isi_str_bool, isi_str_dict, 
    isi_list_tuple_list, isi_list_tuple, isi_list_list, isi_list_str, isi_list_int, isi_list_bool, isi_list_dict, isi_tuple_tuple_list, isi_tuple_tuple, 
    isi_tuple_list, isi_tuple_str, isi_tuple_int, isi_tuple_bool, isi_tuple_dict, isi_dict_tuple_list, isi_dict_tuple, isi_dict_list, isi_dict_str, isi_dict_int, 
    isi_dict_bool, isi_dict_dict, cmp_nei, cmp_neb, cmp_eqb, cmp_isb, cmp_isnb, cmp_in_d, cmp_nin_d, ix_d, bf_all_l, Int.cast_ofNat_Int, Int.ofNat_zero, 
    Int.ofNat_one, Int.reduceEq, Int.reduceNe, Nat.reduceEqDiff, not_true_eq_false, not_false_eq_true, Bool.not_true, Bool.not_false, Bool.not_not, 
    Option.isSome_some, Option.isSome_none, Bool.not_eq_true, Bool.and_eq_true, Bool.or_eq_true, Bool.not_eq_false, putAll_nil, putAll_cons, hideE, evC_so, cmp_nn, 
    cmp_en, bf_sorted, evSt_tl, evTl_set, evTl_tst, evTl_wrk, loE_cons, loE_nil, loS_no, loS_sh, loS_ow, oldFree_nil, oldFree_no, oldFree_sh, oldFree_ow, ne_eq, 
    evE_neg, bf_min, evE_g, at_last, cut_init, evO_so, cmp_isnot, evSt_mat, evCs_nil, putB_nil, bf_max_l, mu_sp_is_number, n_sp_is_number, kd_sp_is_number, 
    mu_sp_thing_of, n_sp_thing_of, kd_sp_thing_of, mu_sp_is_box, n_sp_is_box, kd_sp_is_box, mu_sp_is_function, n_sp_is_function, kd_sp_is_function, mu_sp_new_number, 
    n_sp_new_number, kd_sp_new_number, mu_sp_spoken, n_sp_spoken, kd_sp_spoken, mu_sp_reckoned, n_sp_reckoned, kd_sp_reckoned, mu_sp_lacks_own, n_sp_lacks_own, 
    kd_sp_lacks_own, mu_sp_is_wrong_kind, n_sp_is_wrong_kind, kd_sp_is_wrong_kind, mu_sp_is_too_great, n_sp_is_too_great, kd_sp_is_too_great, mu_sp_is_full, 
    n_sp_is_full, kd_sp_is_full, mu_sp_stuck_word, n_sp_stuck_word, kd_sp_stuck_word, mu_sp_push, n_sp_push, kd_sp_push, mu_sp_keep, n_sp_keep, kd_sp_keep, 
    mu_sp_push_new, n_sp_push_new, kd_sp_push_new, mu_sp_go, n_sp_go, kd_sp_go, mu_sp_own_values, n_sp_own_values, kd_sp_own_values, mu_sp_do_instruction, 
    n_sp_do_instruction, kd_sp_do_instruction, mu_sp_stepped, n_sp_stepped, kd_sp_stepped, mu_sp__law_cell, n_sp__law_cell, kd_sp__law_cell, mu_sp__law_raw, 
    n_sp__law_raw, kd_sp__law_raw, mu_sp__law_whole, n_sp__law_whole, kd_sp__law_whole, mu_sp__law_number, n_sp__law_number, kd_sp__law_number, mu_sp__law_value, 
    n_sp__law_value, kd_sp__law_value, mu_sp__law_values, n_sp__law_values, kd_sp__law_values, mu_sp__law_names, n_sp__law_names, kd_sp__law_names, 
    mu_sp__law_things, n_sp__law_things, kd_sp__law_things, mu_sp__law_frame, n_sp__law_frame, kd_sp__law_frame, mu_sp__law_frames, n_sp__law_frames, 
    kd_sp__law_frames, mu_sp__law_row, n_sp__law_row, kd_sp__law_row, mu_sp__law_program, n_sp__law_program, kd_sp__law_program, mu_sp__law_state, n_sp__law_state, 
    kd_sp__law_state, mu_sp__law_topped, n_sp__law_topped, kd_sp__law_topped, mu_sp__law_same_things, n_sp__law_same_things, kd_sp__law_same_things, 
    mu_sp__law_same_state, n_sp__law_same_state, kd_sp__law_same_state, mu_sp__law_copy, n_sp__law_copy, kd_sp__law_copy, mu_sp__law_is_box, n_sp__law_is_box, 
    kd_sp__law_is_box, mu_sp__law_due, n_sp__law_due, kd_sp__law_due, mu_sp_law, n_sp_law, kd_sp_law, mu_sp__law_alike, n_sp__law_alike, kd_sp__law_alike, $ls,*])
local macro_rules | `(tactic| simp!) => `(tactic| simp only [lit_inj, shaped_lit, small_lit, len_lit, String.reduceEq, Nat.reduceLeDiff, upK_t, upK_f, noMutI_l, noMutI_d, evE_call, evE_v, evE_k, evE_dnew, evE_tup, evE_lst, 
    evE_bin, evE_cmp, evE_ch, evE_and, evE_or, andK_ok, orK_ok, evE_not, evE_ife, evE_bf, evE_isi, evE_ix, evE_sl, evE_vals, evE_me, evL_nil, evL_cons, evBL_nil, 
    evBL_cons, evO_no, evO_k, evT_def, evB_def, evSt_set, evSt_ife, evSt_ret, evSt_frz, evSt_app, evSt_sti, evSt_unp, retE_v, retE_k, retE_tup, retE_lst, retE_bin, 
    retE_cmp, retE_ch, retE_and, retE_or, retE_not, retE_ife, retE_call, retE_bf, retE_isi, retE_ix, retE_sl, retE_lc, brw_v, brw_k, brw_g, brw_neg, brw_tup, 
    brw_lst, brw_bin, brw_cmp, brw_ch, brw_and, brw_or, brw_not, brw_ife, brw_call, brw_bf, brw_isi, brw_ix, brw_sl, brw_lc, brw_vals, brw_ge, brw_dnew, brw_me, 
    bd_ok, bd_ok', exO_ok, exO_ok', lift_some, slotV_sh, slotB_sh, slotB_ow, toB_ok, toB_ok', ok_def, sc, callR_ok, bin_add, bin_sub, bin_mul, bin_div, bin_mod, 
    bf_len_l, bf_len_t, bf_len_d, bf_list_l, bf_list_t, bf_list_d, bf_tuple_l, bf_dict_d, bf_max, bf_int_b, cmp_gt, cmp_lt, cmp_le, cmp_ge, cmp_eqi, cmp_eqs, 
    cmp_nes, cmp_is, ix_l, ix_t, trE_ok, truthE, mul_l, mul_r, putS, mutOld_no, mutOld_sh, mutOld_ow, slotOf_t, slotOf_f, frzE, stiE, appE, keyOf_int0, isSc_int, 
    isSc_str, isSc_none, isSc_bool, noMut_int, noMut_str, noMut_none, noMut_bool, noMut_list, noMut_dict, List.getElem?_cons_succ, List.getElem?_cons_zero, 
    List.set_cons_succ, List.set_cons_zero, List.length_cons, List.length_nil, List.length_map, Nat.reduceAdd, Nat.reduceLT, Int.reduceLT, Int.reduceMul, 
    Int.reduceAdd, Int.reduceSub, Int.reduceNeg, Int.reduceLE, Int.reduceToNat, Nat.reducePow, Int.reducePow, Option.bind_some, bin_pow, bin_add_t, bin_add_l, 
    bin_add_s, sl_t, sl_l, isOwL_t, atI2, atI2i, isOw_t, and_self, true_and, and_true, if_true, if_false, Bool.false_eq_true, decide_true, decide_false, 
    decide_eq_true_eq, Option.map_some, Bool.or_true, Bool.true_and, Bool.and_true, Bool.false_or, Bool.or_false, Bool.false_and, Bool.and_false, Bool.true_or, 
    Bool.or_self, Bool.and_self, seqO_nx, seqO_rt, seqO_er, evSv_r, evSv_l, items_l, items_t, evS_l, evS_r, callK_ok, callK_b0, callK_b1, callK_b2, callK_b3, 
    callK_b4, eq_self, Int.toNat_natCast, isi_none_tuple_list, isi_none_tuple, isi_none_list, isi_none_str, isi_none_int, isi_none_bool, isi_none_dict, 
    isi_bool_tuple_list, isi_bool_tuple, isi_bool_list, isi_bool_str, isi_bool_int, isi_bool_bool, isi_bool_dict, isi_int_tuple_list, isi_int_tuple, isi_int_list, 
    isi_int_str, isi_int_int, isi_int_bool, isi_int_dict, isi_str_tuple_list, isi_str_tuple, isi_str_list, isi_str_str, isi_str_int, isi_str_bool, isi_str_dict, 
    isi_list_tuple_list, isi_list_tuple, isi_list_list, isi_list_str, isi_list_int, isi_list_bool, isi_list_dict, isi_tuple_tuple_list, isi_tuple_tuple, 
    isi_tuple_list, isi_tuple_str, isi_tuple_int, isi_tuple_bool, isi_tuple_dict, isi_dict_tuple_list, isi_dict_tuple, isi_dict_list, isi_dict_str, isi_dict_int, 
    isi_dict_bool, isi_dict_dict, cmp_nei, cmp_neb, cmp_eqb, cmp_isb, cmp_isnb, cmp_in_d, cmp_nin_d, ix_d, bf_all_l, Int.cast_ofNat_Int, Int.ofNat_zero, 
    Int.ofNat_one, Int.reduceEq, Int.reduceNe, Nat.reduceEqDiff, not_true_eq_false, not_false_eq_true, Bool.not_true, Bool.not_false, Bool.not_not, 
    Option.isSome_some, Option.isSome_none, Bool.not_eq_true, Bool.and_eq_true, Bool.or_eq_true, Bool.not_eq_false, putAll_nil, putAll_cons, hideE, evC_so, cmp_nn, 
    cmp_en, bf_sorted, evSt_tl, evTl_set, evTl_tst, evTl_wrk, loE_cons, loE_nil, loS_no, loS_sh, loS_ow, oldFree_nil, oldFree_no, oldFree_sh, oldFree_ow, ne_eq, 
    evE_neg, bf_min, evE_g, at_last, cut_init, evO_so, cmp_isnot, evSt_mat, evCs_nil, putB_nil, bf_max_l, mu_sp_is_number, n_sp_is_number, kd_sp_is_number, 
    mu_sp_thing_of, n_sp_thing_of, kd_sp_thing_of, mu_sp_is_box, n_sp_is_box, kd_sp_is_box, mu_sp_is_function, n_sp_is_function, kd_sp_is_function, mu_sp_new_number, 
    n_sp_new_number, kd_sp_new_number, mu_sp_spoken, n_sp_spoken, kd_sp_spoken, mu_sp_reckoned, n_sp_reckoned, kd_sp_reckoned, mu_sp_lacks_own, n_sp_lacks_own, 
    kd_sp_lacks_own, mu_sp_is_wrong_kind, n_sp_is_wrong_kind, kd_sp_is_wrong_kind, mu_sp_is_too_great, n_sp_is_too_great, kd_sp_is_too_great, mu_sp_is_full, 
    n_sp_is_full, kd_sp_is_full, mu_sp_stuck_word, n_sp_stuck_word, kd_sp_stuck_word, mu_sp_push, n_sp_push, kd_sp_push, mu_sp_keep, n_sp_keep, kd_sp_keep, 
    mu_sp_push_new, n_sp_push_new, kd_sp_push_new, mu_sp_go, n_sp_go, kd_sp_go, mu_sp_own_values, n_sp_own_values, kd_sp_own_values, mu_sp_do_instruction, 
    n_sp_do_instruction, kd_sp_do_instruction, mu_sp_stepped, n_sp_stepped, kd_sp_stepped, mu_sp__law_cell, n_sp__law_cell, kd_sp__law_cell, mu_sp__law_raw, 
    n_sp__law_raw, kd_sp__law_raw, mu_sp__law_whole, n_sp__law_whole, kd_sp__law_whole, mu_sp__law_number, n_sp__law_number, kd_sp__law_number, mu_sp__law_value, 
    n_sp__law_value, kd_sp__law_value, mu_sp__law_values, n_sp__law_values, kd_sp__law_values, mu_sp__law_names, n_sp__law_names, kd_sp__law_names, 
    mu_sp__law_things, n_sp__law_things, kd_sp__law_things, mu_sp__law_frame, n_sp__law_frame, kd_sp__law_frame, mu_sp__law_frames, n_sp__law_frames, 
    kd_sp__law_frames, mu_sp__law_row, n_sp__law_row, kd_sp__law_row, mu_sp__law_program, n_sp__law_program, kd_sp__law_program, mu_sp__law_state, n_sp__law_state, 
    kd_sp__law_state, mu_sp__law_topped, n_sp__law_topped, kd_sp__law_topped, mu_sp__law_same_things, n_sp__law_same_things, kd_sp__law_same_things, 
    mu_sp__law_same_state, n_sp__law_same_state, kd_sp__law_same_state, mu_sp__law_copy, n_sp__law_copy, kd_sp__law_copy, mu_sp__law_is_box, n_sp__law_is_box, 
    kd_sp__law_is_box, mu_sp__law_due, n_sp__law_due, kd_sp__law_due, mu_sp_law, n_sp_law, kd_sp_law, mu_sp__law_alike, n_sp__law_alike, kd_sp__law_alike])
theorem frame_ok (s ns : List Int) (k : Int) (bs : List (List R.D)) (hl : s.length ≤ 64) (hns : ns.length ≤ 900) (hb : 0 < (bs.length : Int)) (hb2 : (bs.length : Int) ≤ 1000) (hr : ∀ r, r ∈ bs → r.length ≤ 1000) :
    ∃ d, FrD ns bs d ∧ sp__law_frame.F [.list (s.map .int), .int k, .list (bs.map .list), .list (ns.map .int)] = some (.ok (d, [])) := by
  have hk : ∃ ft : R.FT, ft.fn "_law_cell" = some sp__law_cell ∧ ft.fn "_law_values" = some sp__law_values ∧
    sp__law_frame.F [.list (s.map .int), .int k, .list (bs.map .list), .list (ns.map .int)] = endD ⟨4, [], ⟨false, true⟩, fun _ => none⟩ (evSl ft b__law_frame [.sh false (.list (s.map .int)), .sh false (.int k), .sh false (.list (bs.map .list)), .sh false (.list (ns.map .int)), .no, .no, .no, .no]) := ⟨_, rfl, rfl, un__law_frame _ _ _ _⟩
  obtain ⟨ft, f1, f3, hk⟩ := hk
  rw [hk]
  apply EndsK.fin
  unfold b__law_frame
  have m0 := Int.emod_nonneg (cellF s k) (show (bs.length : Int) ≠ 0 by omega)
  have m1 := Int.emod_lt_of_pos (cellF s k) hb
  obtain ⟨b, hbn⟩ := nat_of m0
  have hbl : b < bs.length := by omega
  have hx : L2.atI (bs.map PyData.list) (b : Int) = some (.list bs[b]) := L2.atI_nat (by rw [List.getElem?_map, List.getElem?_eq_getElem hbl]; rfl)
  have hrl : bs[b].length ≤ 1000 := hr _ (List.getElem_mem hbl)
  have vals : ∀ k m : Int, 0 ≤ m → m ≤ 60 → ∃ ds, VsD ns 60 ds ∧ sp__law_values.F [.list (s.map .int), .int k, .int m, .list (ns.map .int)] = some (.ok (.tuple ds, [])) := fun k m h0 h1 => by
    obtain ⟨ds, q1, q2, q3⟩ := values_ok s ns k m hl (by omega) h0 (by omega)
    exact ⟨ds, ⟨by omega, q2⟩, q3⟩
  obtain ⟨o1, ho1, e1⟩ := vals (k + 1) (cellF s k / 20 % 5) (Int.emod_nonneg _ (by decide)) (by have := Int.emod_lt_of_pos (cellF s k / 20) (show (0 : Int) < 5 by decide); omega)
  obtain ⟨o2, ho2, e2⟩ := vals (k + 2) (cellF s k / 100 % 5) (Int.emod_nonneg _ (by decide)) (by have := Int.emod_lt_of_pos (cellF s k / 100) (show (0 : Int) < 5 by decide); omega)
  obtain ⟨o3, ho3, e3⟩ := vals (k + 5) 60 (by decide) (by decide)
  have len2 : ∀ {xs ys : List R.D}, VsD ns 60 xs → VsD ns 60 ys → lenOk (xs.length + ys.length) = true := fun a b => lenOk_of (by have := a.1; have := b.1; omega)
  (rw [evSl_cons]; simp! [f1, fun k => cell_ok s k hl])
  (rw [evSl_cons]; simp! [hb, hbn])
  (rw [evSl_cons]; simp! [f3, e1])
  (rw [evSl_cons]; simp! [f3, e2])
  rw [evSl_cons]
  simp! [evSl_nil]
  refine join_cps (fun e => ∃ f own, VsD ns 60 own ∧ e = [.sh false (.list (s.map .int)), .sh false (.int k), .sh false (.list (bs.map .list)), .sh false (.list (ns.map .int)), .sh true (.int (cellF s k)), .sh true (.int b), .sh f (.tuple own), .sh true (.tuple o2)]) ?_ ?_
  · split
    · (rw [evSl_cons]; simp! [f3, e3, len2 ho1 ho3])
      (rw [evSl_cons]; simp!)
      exact Nxt.nil ⟨_, _, ho1.join ho3, rfl⟩
    · exact Nxt.mk ⟨_, _, ho1, rfl⟩
  rintro e ⟨f6, own, hown, rfl⟩
  rw [evSl_cons]
  simp! [evSl_nil]
  refine join_cps (fun e => ∃ f own f7 st, VsD ns 60 own ∧ VsD ns 60 st ∧ e = [.sh false (.list (s.map .int)), .sh false (.int k), .sh false (.list (bs.map .list)), .sh false (.list (ns.map .int)), .sh true (.int (cellF s k)), .sh true (.int b), .sh f (.tuple own), .sh f7 (.tuple st)]) ?_ ?_
  · split
    · (rw [evSl_cons]; simp! [f3, e3, len2 ho2 ho3])
      (rw [evSl_cons]; simp!)
      exact Nxt.nil ⟨_, _, _, _, hown, ho2.join ho3, rfl⟩
    · exact Nxt.mk ⟨_, _, _, _, hown, ho2, rfl⟩
  rintro e ⟨f6, own, f7, st, hown, hst, rfl⟩
  have hp : 0 < (bs[b].length : Int) + 1 := by omega
  have p0 := Int.emod_nonneg (cellF s k / 16000) (show (bs[b].length : Int) + 1 ≠ 0 by omega)
  have p1 := Int.emod_lt_of_pos (cellF s k / 16000) hp
  obtain ⟨p, hpn⟩ := nat_of p0
  (rw [evSl_cons]; simp! [hx, hp, hpn])
  exact EndsK.nm ⟨b, p, own, st, bs[b], rfl, List.getElem?_eq_getElem hbl, by omega, hown, hst⟩ (fr_nm hown hst)
theorem frames_ok (s ns : List Int) (bs : List (List R.D)) (hl : s.length ≤ 64) (hns : ns.length ≤ 900) (hb : 0 < (bs.length : Int)) (hb2 : (bs.length : Int) ≤ 1000) (hr : ∀ r, r ∈ bs → r.length ≤ 1000) :
    ∃ d, (∃ fs, d = .list fs ∧ fs ≠ [] ∧ fs.length ≤ 60 ∧ ∀ f, f ∈ fs → FrD ns bs f) ∧ sp__law_frames.F [.list (s.map .int), .list (bs.map .list), .list (ns.map .int)] = some (.ok (d, [])) := by
  have hk : ∃ ft : R.FT, ft.fn "_law_cell" = some sp__law_cell ∧ ft.fn "_law_frame" = some sp__law_frame ∧
    sp__law_frames.F [.list (s.map .int), .list (bs.map .list), .list (ns.map .int)] = endD ⟨3, [], ⟨true, true⟩, fun _ => none⟩ (evSl ft b__law_frames [.sh false (.list (s.map .int)), .sh false (.list (bs.map .list)), .sh false (.list (ns.map .int)), .no, .no, .no]) := ⟨_, rfl, rfl, un__law_frames _ _ _⟩
  obtain ⟨ft, f1, f3, hk⟩ := hk
  rw [hk]
  apply EndsK.fin
  unfold b__law_frames
  (rw [evSl_cons]; simp! [f1, fun k => cell_ok s k hl])
  (rw [evSl_cons]; simp!)
  (rw [evSl_cons]; simp!)
  rw [evSl_cons]
  simp! [evSl_nil]
  refine join_cps (fun e => ∃ m : Int, 1 ≤ m ∧ m ≤ 60 ∧ e = [.sh false (.list (s.map .int)), .sh false (.list (bs.map .list)), .sh false (.list (ns.map .int)), .sh true (.int (cellF s 2)), .sh true (.int m), .no]) ?_ ?_
  · have h0 := Int.emod_nonneg (cellF s 2 / 48) (show (2 : Int) ≠ 0 by decide)
    have h1 := Int.emod_lt_of_pos (cellF s 2 / 48) (show (0 : Int) < 2 by decide)
    have h2 := Int.emod_nonneg (cellF s 2) (show (3 : Int) ≠ 0 by decide)
    have h3 := Int.emod_lt_of_pos (cellF s 2) (show (0 : Int) < 3 by decide)
    split
    · (rw [evSl_cons]; simp!)
      (rw [evSl_cons]; simp!)
      exact Nxt.nil ⟨59 + cellF s 2 / 48 % 2, by omega, by omega, rfl⟩
    · exact Nxt.mk ⟨1 + cellF s 2 % 3, by omega, by omega, rfl⟩
  rintro e ⟨m, m1, m2, rfl⟩
  obtain ⟨rs, e, l, q⟩ := lc_allF (ft := ft) (i := 5) (src := .r (.v 4)) (e := .call "_law_frame" (.cons (.v 0) (.cons (.bin .Add (.k (.int 500)) (.bin .Mult (.k (.int 13)) (.v 5))) (.cons (.v 1) (.cons (.v 2) .nil))))) (env := [.sh false (.list (s.map .int)), .sh false (.list (bs.map .list)), .sh false (.list (ns.map .int)), .sh true (.int (cellF s 2)), .sh true (.int m), .no]) (f := true) (ds := (List.range m.toNat).map fun j => .int (j : Nat)) (Pr := FrD ns bs)
    (by simp! [rangeE_ok (show 0 ≤ m by omega) (show m ≤ 1000 by omega)]) (by simp) (by rw [range_len]; exact lenOk_of (by omega)) (fun d hd => by
      obtain ⟨j, _, rfl⟩ := range_mem hd
      obtain ⟨d, hv, hF⟩ := frame_ok s ns (500 + 13 * (j : Int)) bs hl hns hb hb2 hr
      simp! [f3, hF]
      exact ⟨_, _, rfl, hv⟩)
  (rw [evSl_cons]; simp! [e])
  refine EndsK.of ⟨rs, rfl, fun h => ?_, by rw [l, range_len]; omega, q⟩
  rw [h, range_len] at l
  simp only [List.length_nil] at l
  omega
end K03RWA
namespace K03RWA
open PySem PySem.Spec PyProof.Rows L2 R
/-- an instruction's row, of a program of nb bodies, in a body of that size -/
def InsD (ws : List Str) (nb size : Int) (d : R.D) : Prop :=
  (("num" : Str) ∈ ws ∧ ∃ z : Int, -(10 ^ 12) ≤ z ∧ z ≤ 10 ^ 12 ∧ d = .tuple [.str "num", .int z]) ∨ (("get" : Str) ∈ ws ∧ ∃ k : Int, 0 ≤ k ∧ k < 60 ∧ d = .tuple [.str "get", .int k]) ∨
  (("fun" : Str) ∈ ws ∧ ∃ (f : Int) (ks : List R.D), 0 ≤ f ∧ f < nb ∧ ks.length ≤ 8 ∧ (∀ x, x ∈ ks → ∃ k : Int, 0 ≤ k ∧ k < 60 ∧ x = .int k) ∧ d = .tuple [.str "fun", .int f, .tuple ks]) ∨
  (∃ (w : Str) (p : Int), w ∈ ws ∧ (w = "jump" ∨ w = "unless") ∧ 0 ≤ p ∧ p ≤ size ∧ d = .tuple [.str w, .int p]) ∨
  (∃ w : Str, w ∈ ws ∧ w ≠ "num" ∧ w ≠ "get" ∧ w ≠ "fun" ∧ w ≠ "jump" ∧ w ≠ "unless" ∧ d = .tuple [.str w])
theorem noMut_cell (s : List Int) (k : Int) : noMut (.int (cellF s k)) = true := rfl
local macro_rules | `(tactic| simp! [$ls,*]) => `(tactic| simp only [lit_inj, shaped_lit, small_lit, len_lit, String.reduceEq, Nat.reduceLeDiff, upK_t, upK_f, noMutI_l, noMutI_d, evE_call, evE_v, evE_k, evE_dnew, evE_tup, evE_lst, 
    evE_bin, evE_cmp, evE_ch, evE_and, evE_or, andK_ok, orK_ok, evE_not, evE_ife, evE_bf, evE_isi, evE_ix, evE_sl, evE_vals, evE_me, evL_nil, evL_cons, evBL_nil, 
    evBL_cons, evO_no, evO_k, evT_def, evB_def, evSt_set, evSt_ife, evSt_ret, evSt_frz, evSt_app, evSt_sti, evSt_unp, retE_v, retE_k, retE_tup, retE_lst, retE_bin, 
    retE_cmp, retE_ch, retE_and, retE_or, retE_not, retE_ife, retE_call, retE_bf, retE_isi, retE_ix, retE_sl, retE_lc, brw_v, brw_k, brw_g, brw_neg, brw_tup, 
    brw_lst, brw_bin, brw_cmp, brw_ch, brw_and, brw_or, brw_not, brw_ife, brw_call, brw_bf, brw_isi, brw_ix, brw_sl, brw_lc, brw_vals, brw_ge, brw_dnew, brw_me, 
    bd_ok, bd_ok', exO_ok, exO_ok', lift_some, slotV_sh, slotB_sh, slotB_ow, toB_ok, toB_ok', ok_def, sc, callR_ok, bin_add, bin_sub, bin_mul, bin_div, bin_mod, 
    bf_len_l, bf_len_t, bf_len_d, bf_list_l, bf_list_t, bf_list_d, bf_tuple_l, bf_dict_d, bf_max, bf_int_b, cmp_gt, cmp_lt, cmp_le, cmp_ge, cmp_eqi, cmp_eqs, 
    cmp_nes, cmp_is, ix_l, ix_t, trE_ok, truthE, mul_l, mul_r, putS, mutOld_no, mutOld_sh, mutOld_ow, slotOf_t, slotOf_f, frzE, stiE, appE, keyOf_int0, isSc_int, 
    isSc_str, isSc_none, isSc_bool, noMut_int, noMut_str, noMut_none, noMut_bool, noMut_list, noMut_dict, List.getElem?_cons_succ, List.getElem?_cons_zero, 
    List.set_cons_succ, List.set_cons_zero, List.length_cons, List.length_nil, List.length_map, Nat.reduceAdd, Nat.reduceLT, Int.reduceLT, Int.reduceMul, 
    Int.reduceAdd, Int.reduceSub, Int.reduceNeg, Int.reduceLE, Int.reduceToNat, Nat.reducePow, Int.reducePow, Option.bind_some, bin_pow, bin_add_t, bin_add_l, 
    bin_add_s, sl_t, sl_l, isOwL_t, atI2, atI2i, isOw_t, and_self, true_and, and_true, if_true, if_false, Bool.false_eq_true, decide_true, decide_false, 
    decide_eq_true_eq, Option.map_some, Bool.or_true, Bool.true_and, Bool.and_true, Bool.false_or, Bool.or_false, Bool.false_and, Bool.and_false, Bool.true_or, 
    Bool.or_self, Bool.and_self, seqO_nx, seqO_rt, seqO_er, evSv_r, evSv_l, items_l, items_t, evS_l, evS_r, callK_ok, callK_b0, callK_b1, callK_b2, callK_b3, 
    callK_b4, eq_self, Int.toNat_natCast, isi_none_tuple_list, isi_none_tuple, isi_none_list, isi_none_str, isi_none_int, isi_none_bool, isi_none_dict, 
    isi_bool_tuple_list, isi_bool_tuple, isi_bool_list, isi_bool_str, isi_bool_int, isi_bool_bool, isi_bool_dict, isi_int_tuple_list, isi_int_tuple, isi_int_list, 
    isi_int_str, isi_int_int, isi_int_bool, isi_int_dict, isi_str_tuple_list, isi_str_tuple, isi_str_list, isi_str_str, isi_str_int, isi_str_bool, isi_str_dict, 
    isi_list_tuple_list, isi_list_tuple, isi_list_list, isi_list_str, isi_list_int, isi_list_bool, isi_list_dict, isi_tuple_tuple_list, isi_tuple_tuple, 
    isi_tuple_list, isi_tuple_str, isi_tuple_int, isi_tuple_bool, isi_tuple_dict, isi_dict_tuple_list, isi_dict_tuple, isi_dict_list, isi_dict_str, isi_dict_int, 
    isi_dict_bool, isi_dict_dict, cmp_nei, cmp_neb, cmp_eqb, cmp_isb, cmp_isnb, cmp_in_d, cmp_nin_d, ix_d, bf_all_l, Int.cast_ofNat_Int, Int.ofNat_zero, 
    Int.ofNat_one, Int.reduceEq, Int.reduceNe, Nat.reduceEqDiff, not_true_eq_false, not_false_eq_true, Bool.not_true, Bool.not_false, Bool.not_not, 
    Option.isSome_some, Option.isSome_none, Bool.not_eq_true, Bool.and_eq_true, Bool.or_eq_true, Bool.not_eq_false, putAll_nil, putAll_cons, hideE, evC_so, cmp_nn, 
    cmp_en, bf_sorted, evSt_tl, evTl_set, evTl_tst, evTl_wrk, loE_cons, loE_nil, loS_no, loS_sh, loS_ow, oldFree_nil, oldFree_no, oldFree_sh, oldFree_ow, ne_eq, 
    evE_neg, bf_min, evE_g, at_last, cut_init, evO_so, cmp_isnot, evSt_mat, evCs_nil, putB_nil, bf_max_l, mu_sp_is_number, n_sp_is_number, kd_sp_is_number, 
    mu_sp_thing_of, n_sp_thing_of, kd_sp_thing_of, mu_sp_is_box, n_sp_is_box, kd_sp_is_box, mu_sp_is_function, n_sp_is_function, kd_sp_is_function, mu_sp_new_number, 
    n_sp_new_number, kd_sp_new_number, mu_sp_spoken, n_sp_spoken, kd_sp_spoken, mu_sp_reckoned, n_sp_reckoned, kd_sp_reckoned, mu_sp_lacks_own, n_sp_lacks_own, 
    kd_sp_lacks_own, mu_sp_is_wrong_kind, n_sp_is_wrong_kind, kd_sp_is_wrong_kind, mu_sp_is_too_great, n_sp_is_too_great, kd_sp_is_too_great, mu_sp_is_full, 
    n_sp_is_full, kd_sp_is_full, mu_sp_stuck_word, n_sp_stuck_word, kd_sp_stuck_word, mu_sp_push, n_sp_push, kd_sp_push, mu_sp_keep, n_sp_keep, kd_sp_keep, 
    mu_sp_push_new, n_sp_push_new, kd_sp_push_new, mu_sp_go, n_sp_go, kd_sp_go, mu_sp_own_values, n_sp_own_values, kd_sp_own_values, mu_sp_do_instruction, 
    n_sp_do_instruction, kd_sp_do_instruction, mu_sp_stepped, n_sp_stepped, kd_sp_stepped, mu_sp__law_cell, n_sp__law_cell, kd_sp__law_cell, mu_sp__law_raw, 
    n_sp__law_raw, kd_sp__law_raw, mu_sp__law_whole, n_sp__law_whole, kd_sp__law_whole, mu_sp__law_number, n_sp__law_number, kd_sp__law_number, mu_sp__law_value, 
    n_sp__law_value, kd_sp__law_value, mu_sp__law_values, n_sp__law_values, kd_sp__law_values, mu_sp__law_names, n_sp__law_names, kd_sp__law_names, 
    mu_sp__law_things, n_sp__law_things, kd_sp__law_things, mu_sp__law_frame, n_sp__law_frame, kd_sp__law_frame, mu_sp__law_frames, n_sp__law_frames, 
    kd_sp__law_frames, mu_sp__law_row, n_sp__law_row, kd_sp__law_row, mu_sp__law_program, n_sp__law_program, kd_sp__law_program, mu_sp__law_state, n_sp__law_state, 
    kd_sp__law_state, mu_sp__law_topped, n_sp__law_topped, kd_sp__law_topped, mu_sp__law_same_things, n_sp__law_same_things, kd_sp__law_same_things, 
    mu_sp__law_same_state, n_sp__law_same_state, kd_sp__law_same_state, mu_sp__law_copy, n_sp__law_copy, kd_sp__law_copy, mu_sp__law_is_box, n_sp__law_is_box, 
    kd_sp__law_is_box, mu_sp__law_due, n_sp__law_due, kd_sp__law_due, mu_sp_law, n_sp_law, kd_sp_law, mu_sp__law_alike, n_sp__law_alike, kd_sp__law_alike, $ls,*])
local macro_rules | `(tactic| simp!) => `(tactic| simp only [lit_inj, shaped_lit, small_lit, len_lit, String.reduceEq, Nat.reduceLeDiff, upK_t, upK_f, noMutI_l, noMutI_d, evE_call, evE_v, evE_k, evE_dnew, evE_tup, evE_lst, 
    evE_bin, evE_cmp, evE_ch, evE_and, evE_or, andK_ok, orK_ok, evE_not, evE_ife, evE_bf, evE_isi, evE_ix, evE_sl, evE_vals, evE_me, evL_nil, evL_cons, evBL_nil, 
    evBL_cons, evO_no, evO_k, evT_def, evB_def, evSt_set, evSt_ife, evSt_ret, evSt_frz, evSt_app, evSt_sti, evSt_unp, retE_v, retE_k, retE_tup, retE_lst, retE_bin, 
    retE_cmp, retE_ch, retE_and, retE_or, retE_not, retE_ife, retE_call, retE_bf, retE_isi, retE_ix, retE_sl, retE_lc, brw_v, brw_k, brw_g, brw_neg, brw_tup, 
    brw_lst, brw_bin, brw_cmp, brw_ch, brw_and, brw_or, brw_not, brw_ife, brw_call, brw_bf, brw_isi, brw_ix, brw_sl, brw_lc, brw_vals, brw_ge, brw_dnew, brw_me, 
    bd_ok, bd_ok', exO_ok, exO_ok', lift_some, slotV_sh, slotB_sh, slotB_ow, toB_ok, toB_ok', ok_def, sc, callR_ok, bin_add, bin_sub, bin_mul, bin_div, bin_mod, 
    bf_len_l, bf_len_t, bf_len_d, bf_list_l, bf_list_t, bf_list_d, bf_tuple_l, bf_dict_d, bf_max, bf_int_b, cmp_gt, cmp_lt, cmp_le, cmp_ge, cmp_eqi, cmp_eqs, 
    cmp_nes, cmp_is, ix_l, ix_t, trE_ok, truthE, mul_l, mul_r, putS, mutOld_no, mutOld_sh, mutOld_ow, slotOf_t, slotOf_f, frzE, stiE, appE, keyOf_int0, isSc_int, 
    isSc_str, isSc_none, isSc_bool, noMut_int, noMut_str, noMut_none, noMut_bool, noMut_list, noMut_dict, List.getElem?_cons_succ, List.getElem?_cons_zero, 
    List.set_cons_succ, List.set_cons_zero, List.length_cons, List.length_nil, List.length_map, Nat.reduceAdd, Nat.reduceLT, Int.reduceLT, Int.reduceMul, 
    Int.reduceAdd, Int.reduceSub, Int.reduceNeg, Int.reduceLE, Int.reduceToNat, Nat.reducePow, Int.reducePow, Option.bind_some, bin_pow, bin_add_t, bin_add_l, 
    bin_add_s, sl_t, sl_l, isOwL_t, atI2, atI2i, isOw_t, and_self, true_and, and_true, if_true, if_false, Bool.false_eq_true, decide_true, decide_false, 
    decide_eq_true_eq, Option.map_some, Bool.or_true, Bool.true_and, Bool.and_true, Bool.false_or, Bool.or_false, Bool.false_and, Bool.and_false, Bool.true_or, 
    Bool.or_self, Bool.and_self, seqO_nx, seqO_rt, seqO_er, evSv_r, evSv_l, items_l, items_t, evS_l, evS_r, callK_ok, callK_b0, callK_b1, callK_b2, callK_b3, 
    callK_b4, eq_self, Int.toNat_natCast, isi_none_tuple_list, isi_none_tuple, isi_none_list, isi_none_str, isi_none_int, isi_none_bool, isi_none_dict, 
    isi_bool_tuple_list, isi_bool_tuple, isi_bool_list, isi_bool_str, isi_bool_int, isi_bool_bool, isi_bool_dict, isi_int_tuple_list, isi_int_tuple, isi_int_list, 
    isi_int_str, isi_int_int, isi_int_bool, isi_int_dict, isi_str_tuple_list, isi_str_tuple, isi_str_list, isi_str_str, isi_str_int, isi_str_bool, isi_str_dict, 
    isi_list_tuple_list, isi_list_tuple, isi_list_list, isi_list_str, isi_list_int, isi_list_bool, isi_list_dict, isi_tuple_tuple_list, isi_tuple_tuple, 
    isi_tuple_list, isi_tuple_str, isi_tuple_int, isi_tuple_bool, isi_tuple_dict, isi_dict_tuple_list, isi_dict_tuple, isi_dict_list, isi_dict_str, isi_dict_int, 
    isi_dict_bool, isi_dict_dict, cmp_nei, cmp_neb, cmp_eqb, cmp_isb, cmp_isnb, cmp_in_d, cmp_nin_d, ix_d, bf_all_l, Int.cast_ofNat_Int, Int.ofNat_zero, 
    Int.ofNat_one, Int.reduceEq, Int.reduceNe, Nat.reduceEqDiff, not_true_eq_false, not_false_eq_true, Bool.not_true, Bool.not_false, Bool.not_not, 
    Option.isSome_some, Option.isSome_none, Bool.not_eq_true, Bool.and_eq_true, Bool.or_eq_true, Bool.not_eq_false, putAll_nil, putAll_cons, hideE, evC_so, cmp_nn, 
    cmp_en, bf_sorted, evSt_tl, evTl_set, evTl_tst, evTl_wrk, loE_cons, loE_nil, loS_no, loS_sh, loS_ow, oldFree_nil, oldFree_no, oldFree_sh, oldFree_ow, ne_eq, 
    evE_neg, bf_min, evE_g, at_last, cut_init, evO_so, cmp_isnot, evSt_mat, evCs_nil, putB_nil, bf_max_l, mu_sp_is_number, n_sp_is_number, kd_sp_is_number, 
    mu_sp_thing_of, n_sp_thing_of, kd_sp_thing_of, mu_sp_is_box, n_sp_is_box, kd_sp_is_box, mu_sp_is_function, n_sp_is_function, kd_sp_is_function, mu_sp_new_number, 
    n_sp_new_number, kd_sp_new_number, mu_sp_spoken, n_sp_spoken, kd_sp_spoken, mu_sp_reckoned, n_sp_reckoned, kd_sp_reckoned, mu_sp_lacks_own, n_sp_lacks_own, 
    kd_sp_lacks_own, mu_sp_is_wrong_kind, n_sp_is_wrong_kind, kd_sp_is_wrong_kind, mu_sp_is_too_great, n_sp_is_too_great, kd_sp_is_too_great, mu_sp_is_full, 
    n_sp_is_full, kd_sp_is_full, mu_sp_stuck_word, n_sp_stuck_word, kd_sp_stuck_word, mu_sp_push, n_sp_push, kd_sp_push, mu_sp_keep, n_sp_keep, kd_sp_keep, 
    mu_sp_push_new, n_sp_push_new, kd_sp_push_new, mu_sp_go, n_sp_go, kd_sp_go, mu_sp_own_values, n_sp_own_values, kd_sp_own_values, mu_sp_do_instruction, 
    n_sp_do_instruction, kd_sp_do_instruction, mu_sp_stepped, n_sp_stepped, kd_sp_stepped, mu_sp__law_cell, n_sp__law_cell, kd_sp__law_cell, mu_sp__law_raw, 
    n_sp__law_raw, kd_sp__law_raw, mu_sp__law_whole, n_sp__law_whole, kd_sp__law_whole, mu_sp__law_number, n_sp__law_number, kd_sp__law_number, mu_sp__law_value, 
    n_sp__law_value, kd_sp__law_value, mu_sp__law_values, n_sp__law_values, kd_sp__law_values, mu_sp__law_names, n_sp__law_names, kd_sp__law_names, 
    mu_sp__law_things, n_sp__law_things, kd_sp__law_things, mu_sp__law_frame, n_sp__law_frame, kd_sp__law_frame, mu_sp__law_frames, n_sp__law_frames, 
    kd_sp__law_frames, mu_sp__law_row, n_sp__law_row, kd_sp__law_row, mu_sp__law_program, n_sp__law_program, kd_sp__law_program, mu_sp__law_state, n_sp__law_state, 
    kd_sp__law_state, mu_sp__law_topped, n_sp__law_topped, kd_sp__law_topped, mu_sp__law_same_things, n_sp__law_same_things, kd_sp__law_same_things, 
    mu_sp__law_same_state, n_sp__law_same_state, kd_sp__law_same_state, mu_sp__law_copy, n_sp__law_copy, kd_sp__law_copy, mu_sp__law_is_box, n_sp__law_is_box, 
    kd_sp__law_is_box, mu_sp__law_due, n_sp__law_due, kd_sp__law_due, mu_sp_law, n_sp_law, kd_sp_law, mu_sp__law_alike, n_sp__law_alike, kd_sp__law_alike])
theorem row_ok (s : List Int) (k : Int) (ws : List Str) (nb size : Int) (hl : s.length ≤ 64) (hw : ws ≠ []) (hw2 : (ws.length : Int) < 1000) (hws : ∀ w, w ∈ ws → shapedB (.str w) = true) (hb : 0 < nb) (hz : 0 ≤ size) :
    ∃ d, InsD ws nb size d ∧ sp__law_row.F [.list (s.map .int), .int k, .list (ws.map .str), .int nb, .int size] = some (.ok (d, [])) := by
  have hk : ∃ ft : R.FT, ft.fn "_law_cell" = some sp__law_cell ∧ ft.fn "_law_raw" = some sp__law_raw ∧
    sp__law_row.F [.list (s.map .int), .int k, .list (ws.map .str), .int nb, .int size] = endD ⟨5, [], ⟨false, false⟩, fun _ => none⟩ (evSl ft b__law_row [.sh false (.list (s.map .int)), .sh false (.int k), .sh false (.list (ws.map .str)), .sh false (.int nb), .sh false (.int size), .no, .no, .no, .no, .no, .no]) := ⟨_, rfl, rfl, un__law_row _ _ _ _ _⟩
  obtain ⟨ft, f1, f3, hk⟩ := hk
  rw [hk]
  apply Ends.fin
  unfold b__law_row
  have hl0 : 0 < (ws.length : Int) := by
    cases ws with
    | nil => exact absurd rfl hw
    | cons _ _ => simp only [List.length_cons]; omega
  obtain ⟨x, hxm, hx⟩ := atI_mod (xs := ws.map PyData.str) (i := cellF s k) (by simpa using hw)
  obtain ⟨w, hwm, rfl⟩ := List.mem_map.mp hxm
  rw [List.length_map] at hx
  have hsh := hws w hwm
  (rw [evSl_cons]; simp! [f1, fun k => cell_ok s k hl])
  (rw [evSl_cons]; simp! [hl0, hx])
  (rw [evSl_cons]; simp! [hl0, show (ws.length : Int) < 1073741824 by omega])
  generalize cellF s k / (ws.length : Int) = c
  rw [evSl_cons]
  simp! [hsh, evSl_nil]
  by_cases e1 : w = "num"
  · rw [if_pos e1]
    have h0 := Int.emod_nonneg (rawF s k) (show (2000000000001 : Int) ≠ 0 by decide)
    have h1 := Int.emod_lt_of_pos (rawF s k) (show (0 : Int) < 2000000000001 by decide)
    have h2 := Int.emod_nonneg c (show (19 : Int) ≠ 0 by decide)
    have h3 := Int.emod_lt_of_pos c (show (0 : Int) < 19 by decide)
    (rw [evSl_cons]; simp! [f3, fun k => raw_ok s k hl])
    (rw [evSl_cons]; simp!)
    refine Ends.mk (.inl ⟨e1 ▸ hwm, ?_⟩)
    split
    · exact ⟨c % 19 - 9, by omega, by omega, rfl⟩
    · exact ⟨rawF s k % 2000000000001 - 1000000000000, by omega, by omega, rfl⟩
  rw [if_neg e1, seqO_nx, evSl_cons]
  simp! [hsh, evSl_nil]
  by_cases e2 : w = "get"
  · rw [if_pos e2]
    have h0 := Int.emod_nonneg c (show (5 : Int) ≠ 0 by decide)
    have h1 := Int.emod_lt_of_pos c (show (0 : Int) < 5 by decide)
    have h2 := Int.emod_nonneg (c / 5) (show (60 : Int) ≠ 0 by decide)
    have h3 := Int.emod_lt_of_pos (c / 5) (show (0 : Int) < 60 by decide)
    (rw [evSl_cons]; simp!)
    refine Ends.mk (.inr (.inl ⟨e2 ▸ hwm, ?_⟩))
    split
    · exact ⟨c / 5 % 60, h2, h3, rfl⟩
    · exact ⟨c % 5, h0, by omega, rfl⟩
  rw [if_neg e2, seqO_nx, evSl_cons]
  simp! [hsh, evSl_nil]
  by_cases e3 : w = "fun"
  · rw [if_pos e3]
    (rw [evSl_cons]; simp!)
    have far : ∃ q : Int, 0 < q ∧ q ≤ 60 ∧ (if c / 9 % 16 = 1 then PyData.int 60 else PyData.int 5) = .int q := by
      split
      · exact ⟨60, by decide, by decide, rfl⟩
      · exact ⟨5, by decide, by decide, rfl⟩
    obtain ⟨q, q0, q1, hq⟩ := far
    rw [hq]
    have h0 := Int.emod_nonneg c (show (9 : Int) ≠ 0 by decide)
    have h1 := Int.emod_lt_of_pos c (show (0 : Int) < 9 by decide)
    obtain ⟨b, rs, e, l, qq⟩ := lc_all (ft := ft) (i := 10) (src := .r (.bin .Mod (.v 7) (.k (.int 9)))) (e := .bin .Mod (.call "_law_cell" (.cons (.v 0) (.cons (.bin .Add (.bin .Add (.v 1) (.k (.int 17))) (.v 10)) .nil))) (.v 8))
      (env := [.sh false (.list (s.map .int)), .sh false (.int k), .sh false (.list (ws.map .str)), .sh false (.int nb), .sh false (.int size), .sh true (.int (cellF s k)), .sh false (.str w), .sh true (.int c), .sh true (.int q), .no, .no]) (f := true) (ds := (List.range (c % 9).toNat).map fun j => .int (j : Nat)) (Pr := fun x => ∃ k : Int, 0 ≤ k ∧ k < 60 ∧ x = .int k)
      (by simp! [rangeE_ok h0 (show c % 9 ≤ 1000 by omega)]) (by simp) (by rw [range_len]; exact lenOk_of (by omega)) (fun d hd => by
        obtain ⟨j, _, rfl⟩ := range_mem hd
        simp! [f1, fun k => cell_ok s k hl, q0]
        exact ⟨_, _, rfl, _, Int.emod_nonneg _ (by omega), by have := Int.emod_lt_of_pos (cellF s (k + 17 + (j : Int))) q0; omega, rfl⟩)
    (rw [evSl_cons]; simp! [e])
    (rw [evSl_cons]; simp! [hb])
    refine Ends.mk (.inr (.inr (.inl ⟨e3 ▸ hwm, c / 144 % nb, rs, Int.emod_nonneg _ (by omega), Int.emod_lt_of_pos _ hb, ?_, qq, rfl⟩)))
    rw [l, range_len]
    omega
  rw [if_neg e3, seqO_nx, evSl_cons]
  simp! [hsh, evSl_nil]
  have hz1 : 0 < size + 1 := by omega
  have h0 := Int.emod_nonneg c (show size + 1 ≠ 0 by omega)
  have h1 := Int.emod_lt_of_pos c hz1
  by_cases e4 : w = "jump"
  · simp! [e4]
    (rw [evSl_cons]; simp! [hz1])
    exact Ends.mk (.inr (.inr (.inr (.inl ⟨_, c % (size + 1), e4 ▸ hwm, .inl rfl, h0, by omega, rfl⟩))))
  by_cases e5 : w = "unless"
  · simp! [e5]
    (rw [evSl_cons]; simp! [hz1])
    exact Ends.mk (.inr (.inr (.inr (.inl ⟨_, c % (size + 1), e5 ▸ hwm, .inr rfl, h0, by omega, rfl⟩))))
  simp! [e4, e5]
  (rw [evSl_cons]; simp!)
  exact Ends.mk (.inr (.inr (.inr (.inr ⟨w, hwm, e1, e2, e3, e4, e5, rfl⟩))))
end K03RWA
namespace K03RWA
open PySem PySem.Spec PyProof.Rows L2 R
/-- a program -/
structure PrD (ws : List Str) (bs : List (List R.D)) : Prop where
  pos : 0 < (bs.length : Int)
  len : bs.length ≤ 20
  row : ∀ r, r ∈ bs → r.length ≤ 60 ∧ ∀ d, d ∈ r → InsD ws bs.length r.length d
local macro_rules | `(tactic| simp! [$ls,*]) => `(tactic| simp only [lit_inj, shaped_lit, small_lit, len_lit, String.reduceEq, Nat.reduceLeDiff, upK_t, upK_f, noMutI_l, noMutI_d, evE_call, evE_v, evE_k, evE_dnew, evE_tup, evE_lst, 
    evE_bin, evE_cmp, evE_ch, evE_and, evE_or, andK_ok, orK_ok, evE_not, evE_ife, evE_bf, evE_isi, evE_ix, evE_sl, evE_vals, evE_me, evL_nil, evL_cons, evBL_nil, 
    evBL_cons, evO_no, evO_k, evT_def, evB_def, evSt_set, evSt_ife, evSt_ret, evSt_frz, evSt_app, evSt_sti, evSt_unp, retE_v, retE_k, retE_tup, retE_lst, retE_bin, 
    retE_cmp, retE_ch, retE_and, retE_or, retE_not, retE_ife, retE_call, retE_bf, retE_isi, retE_ix, retE_sl, retE_lc, brw_v, brw_k, brw_g, brw_neg, brw_tup, 
    brw_lst, brw_bin, brw_cmp, brw_ch, brw_and, brw_or, brw_not, brw_ife, brw_call, brw_bf, brw_isi, brw_ix, brw_sl, brw_lc, brw_vals, brw_ge, brw_dnew, brw_me, 
    bd_ok, bd_ok', exO_ok, exO_ok', lift_some, slotV_sh, slotB_sh, slotB_ow, toB_ok, toB_ok', ok_def, sc, callR_ok, bin_add, bin_sub, bin_mul, bin_div, bin_mod, 
    bf_len_l, bf_len_t, bf_len_d, bf_list_l, bf_list_t, bf_list_d, bf_tuple_l, bf_dict_d, bf_max, bf_int_b, cmp_gt, cmp_lt, cmp_le, cmp_ge, cmp_eqi, cmp_eqs, 
    cmp_nes, cmp_is, ix_l, ix_t, trE_ok, truthE, mul_l, mul_r, putS, mutOld_no, mutOld_sh, mutOld_ow, slotOf_t, slotOf_f, frzE, stiE, appE, keyOf_int0, isSc_int, 
    isSc_str, isSc_none, isSc_bool, noMut_int, noMut_str, noMut_none, noMut_bool, noMut_list, noMut_dict, List.getElem?_cons_succ, List.getElem?_cons_zero, 
    List.set_cons_succ, List.set_cons_zero, List.length_cons, List.length_nil, List.length_map, Nat.reduceAdd, Nat.reduceLT, Int.reduceLT, Int.reduceMul, 
    Int.reduceAdd, Int.reduceSub, Int.reduceNeg, Int.reduceLE, Int.reduceToNat, Nat.reducePow, Int.reducePow, Option.bind_some, bin_pow, bin_add_t, bin_add_l, 
    bin_add_s, sl_t, sl_l, isOwL_t, atI2, atI2i, isOw_t, and_self, true_and, and_true, if_true, if_false, Bool.false_eq_true, decide_true, decide_false, 
    decide_eq_true_eq, Option.map_some, Bool.or_true, Bool.true_and, Bool.and_true, Bool.false_or, Bool.or_false, Bool.false_and, Bool.and_false, Bool.true_or, 
    Bool.or_self, Bool.and_self, seqO_nx, seqO_rt, seqO_er, evSv_r, evSv_l, items_l, items_t, evS_l, evS_r, callK_ok, callK_b0, callK_b1, callK_b2, callK_b3, 
    callK_b4, eq_self, Int.toNat_natCast, isi_none_tuple_list, isi_none_tuple, isi_none_list, isi_none_str, isi_none_int, isi_none_bool, isi_none_dict, 
    isi_bool_tuple_list, isi_bool_tuple, isi_bool_list, isi_bool_str, isi_bool_int, isi_bool_bool, isi_bool_dict, isi_int_tuple_list, isi_int_tuple, isi_int_list, 
    isi_int_str, isi_int_int, isi_int_bool, isi_int_dict, isi_str_tuple_list, isi_str_tuple, isi_str_list, isi_str_str, isi_str_int, isi_str_bool, isi_str_dict, 
    isi_list_tuple_list, isi_list_tuple, isi_list_list, isi_list_str, isi_list_int, isi_list_bool, isi_list_dict, isi_tuple_tuple_list, isi_tuple_tuple, 
    isi_tuple_list, isi_tuple_str, isi_tuple_int, isi_tuple_bool, isi_tuple_dict, isi_dict_tuple_list, isi_dict_tuple, isi_dict_list, isi_dict_str, isi_dict_int, 
    isi_dict_bool, isi_dict_dict, cmp_nei, cmp_neb, cmp_eqb, cmp_isb, cmp_isnb, cmp_in_d, cmp_nin_d, ix_d, bf_all_l, Int.cast_ofNat_Int, Int.ofNat_zero, 
    Int.ofNat_one, Int.reduceEq, Int.reduceNe, Nat.reduceEqDiff, not_true_eq_false, not_false_eq_true, Bool.not_true, Bool.not_false, Bool.not_not, 
    Option.isSome_some, Option.isSome_none, Bool.not_eq_true, Bool.and_eq_true, Bool.or_eq_true, Bool.not_eq_false, putAll_nil, putAll_cons, hideE, evC_so, cmp_nn, 
    cmp_en, bf_sorted, evSt_tl, evTl_set, evTl_tst, evTl_wrk, loE_cons, loE_nil, loS_no, loS_sh, loS_ow, oldFree_nil, oldFree_no, oldFree_sh, oldFree_ow, ne_eq, 
    evE_neg, bf_min, evE_g, at_last, cut_init, evO_so, cmp_isnot, evSt_mat, evCs_nil, putB_nil, bf_max_l, mu_sp_is_number, n_sp_is_number, kd_sp_is_number, 
    mu_sp_thing_of, n_sp_thing_of, kd_sp_thing_of, mu_sp_is_box, n_sp_is_box, kd_sp_is_box, mu_sp_is_function, n_sp_is_function, kd_sp_is_function, mu_sp_new_number, 
    n_sp_new_number, kd_sp_new_number, mu_sp_spoken, n_sp_spoken, kd_sp_spoken, mu_sp_reckoned, n_sp_reckoned, kd_sp_reckoned, mu_sp_lacks_own, n_sp_lacks_own, 
    kd_sp_lacks_own, mu_sp_is_wrong_kind, n_sp_is_wrong_kind, kd_sp_is_wrong_kind, mu_sp_is_too_great, n_sp_is_too_great, kd_sp_is_too_great, mu_sp_is_full, 
    n_sp_is_full, kd_sp_is_full, mu_sp_stuck_word, n_sp_stuck_word, kd_sp_stuck_word, mu_sp_push, n_sp_push, kd_sp_push, mu_sp_keep, n_sp_keep, kd_sp_keep, 
    mu_sp_push_new, n_sp_push_new, kd_sp_push_new, mu_sp_go, n_sp_go, kd_sp_go, mu_sp_own_values, n_sp_own_values, kd_sp_own_values, mu_sp_do_instruction, 
    n_sp_do_instruction, kd_sp_do_instruction, mu_sp_stepped, n_sp_stepped, kd_sp_stepped, mu_sp__law_cell, n_sp__law_cell, kd_sp__law_cell, mu_sp__law_raw, 
    n_sp__law_raw, kd_sp__law_raw, mu_sp__law_whole, n_sp__law_whole, kd_sp__law_whole, mu_sp__law_number, n_sp__law_number, kd_sp__law_number, mu_sp__law_value, 
    n_sp__law_value, kd_sp__law_value, mu_sp__law_values, n_sp__law_values, kd_sp__law_values, mu_sp__law_names, n_sp__law_names, kd_sp__law_names, 
    mu_sp__law_things, n_sp__law_things, kd_sp__law_things, mu_sp__law_frame, n_sp__law_frame, kd_sp__law_frame, mu_sp__law_frames, n_sp__law_frames, 
    kd_sp__law_frames, mu_sp__law_row, n_sp__law_row, kd_sp__law_row, mu_sp__law_program, n_sp__law_program, kd_sp__law_program, mu_sp__law_state, n_sp__law_state, 
    kd_sp__law_state, mu_sp__law_topped, n_sp__law_topped, kd_sp__law_topped, mu_sp__law_same_things, n_sp__law_same_things, kd_sp__law_same_things, 
    mu_sp__law_same_state, n_sp__law_same_state, kd_sp__law_same_state, mu_sp__law_copy, n_sp__law_copy, kd_sp__law_copy, mu_sp__law_is_box, n_sp__law_is_box, 
    kd_sp__law_is_box, mu_sp__law_due, n_sp__law_due, kd_sp__law_due, mu_sp_law, n_sp_law, kd_sp_law, mu_sp__law_alike, n_sp__law_alike, kd_sp__law_alike, $ls,*])
local macro_rules | `(tactic| simp!) => `(tactic| simp only [lit_inj, shaped_lit, small_lit, len_lit, String.reduceEq, Nat.reduceLeDiff, upK_t, upK_f, noMutI_l, noMutI_d, evE_call, evE_v, evE_k, evE_dnew, evE_tup, evE_lst, 
    evE_bin, evE_cmp, evE_ch, evE_and, evE_or, andK_ok, orK_ok, evE_not, evE_ife, evE_bf, evE_isi, evE_ix, evE_sl, evE_vals, evE_me, evL_nil, evL_cons, evBL_nil, 
    evBL_cons, evO_no, evO_k, evT_def, evB_def, evSt_set, evSt_ife, evSt_ret, evSt_frz, evSt_app, evSt_sti, evSt_unp, retE_v, retE_k, retE_tup, retE_lst, retE_bin, 
    retE_cmp, retE_ch, retE_and, retE_or, retE_not, retE_ife, retE_call, retE_bf, retE_isi, retE_ix, retE_sl, retE_lc, brw_v, brw_k, brw_g, brw_neg, brw_tup, 
    brw_lst, brw_bin, brw_cmp, brw_ch, brw_and, brw_or, brw_not, brw_ife, brw_call, brw_bf, brw_isi, brw_ix, brw_sl, brw_lc, brw_vals, brw_ge, brw_dnew, brw_me, 
    bd_ok, bd_ok', exO_ok, exO_ok', lift_some, slotV_sh, slotB_sh, slotB_ow, toB_ok, toB_ok', ok_def, sc, callR_ok, bin_add, bin_sub, bin_mul, bin_div, bin_mod, 
    bf_len_l, bf_len_t, bf_len_d, bf_list_l, bf_list_t, bf_list_d, bf_tuple_l, bf_dict_d, bf_max, bf_int_b, cmp_gt, cmp_lt, cmp_le, cmp_ge, cmp_eqi, cmp_eqs, 
    cmp_nes, cmp_is, ix_l, ix_t, trE_ok, truthE, mul_l, mul_r, putS, mutOld_no, mutOld_sh, mutOld_ow, slotOf_t, slotOf_f, frzE, stiE, appE, keyOf_int0, isSc_int, 
    isSc_str, isSc_none, isSc_bool, noMut_int, noMut_str, noMut_none, noMut_bool, noMut_list, noMut_dict, List.getElem?_cons_succ, List.getElem?_cons_zero, 
    List.set_cons_succ, List.set_cons_zero, List.length_cons, List.length_nil, List.length_map, Nat.reduceAdd, Nat.reduceLT, Int.reduceLT, Int.reduceMul, 
    Int.reduceAdd, Int.reduceSub, Int.reduceNeg, Int.reduceLE, Int.reduceToNat, Nat.reducePow, Int.reducePow, Option.bind_some, bin_pow, bin_add_t, bin_add_l, 
    bin_add_s, sl_t, sl_l, isOwL_t, atI2, atI2i, isOw_t, and_self, true_and, and_true, if_true, if_false, Bool.false_eq_true, decide_true, decide_false, 
    decide_eq_true_eq, Option.map_some, Bool.or_true, Bool.true_and, Bool.and_true, Bool.false_or, Bool.or_false, Bool.false_and, Bool.and_false, Bool.true_or, 
    Bool.or_self, Bool.and_self, seqO_nx, seqO_rt, seqO_er, evSv_r, evSv_l, items_l, items_t, evS_l, evS_r, callK_ok, callK_b0, callK_b1, callK_b2, callK_b3, 
    callK_b4, eq_self, Int.toNat_natCast, isi_none_tuple_list, isi_none_tuple, isi_none_list, isi_none_str, isi_none_int, isi_none_bool, isi_none_dict, 
    isi_bool_tuple_list, isi_bool_tuple, isi_bool_list, isi_bool_str, isi_bool_int, isi_bool_bool, isi_bool_dict, isi_int_tuple_list, isi_int_tuple, isi_int_list, 
    isi_int_str, isi_int_int, isi_int_bool, isi_int_dict, isi_str_tuple_list, isi_str_tuple, isi_str_list, isi_str_str, isi_str_int, isi_str_bool, isi_str_dict, 
    isi_list_tuple_list, isi_list_tuple, isi_list_list, isi_list_str, isi_list_int, isi_list_bool, isi_list_dict, isi_tuple_tuple_list, isi_tuple_tuple, 
    isi_tuple_list, isi_tuple_str, isi_tuple_int, isi_tuple_bool, isi_tuple_dict, isi_dict_tuple_list, isi_dict_tuple, isi_dict_list, isi_dict_str, isi_dict_int, 
    isi_dict_bool, isi_dict_dict, cmp_nei, cmp_neb, cmp_eqb, cmp_isb, cmp_isnb, cmp_in_d, cmp_nin_d, ix_d, bf_all_l, Int.cast_ofNat_Int, Int.ofNat_zero, 
    Int.ofNat_one, Int.reduceEq, Int.reduceNe, Nat.reduceEqDiff, not_true_eq_false, not_false_eq_true, Bool.not_true, Bool.not_false, Bool.not_not, 
    Option.isSome_some, Option.isSome_none, Bool.not_eq_true, Bool.and_eq_true, Bool.or_eq_true, Bool.not_eq_false, putAll_nil, putAll_cons, hideE, evC_so, cmp_nn, 
    cmp_en, bf_sorted, evSt_tl, evTl_set, evTl_tst, evTl_wrk, loE_cons, loE_nil, loS_no, loS_sh, loS_ow, oldFree_nil, oldFree_no, oldFree_sh, oldFree_ow, ne_eq, 
    evE_neg, bf_min, evE_g, at_last, cut_init, evO_so, cmp_isnot, evSt_mat, evCs_nil, putB_nil, bf_max_l, mu_sp_is_number, n_sp_is_number, kd_sp_is_number, 
    mu_sp_thing_of, n_sp_thing_of, kd_sp_thing_of, mu_sp_is_box, n_sp_is_box, kd_sp_is_box, mu_sp_is_function, n_sp_is_function, kd_sp_is_function, mu_sp_new_number, 
    n_sp_new_number, kd_sp_new_number, mu_sp_spoken, n_sp_spoken, kd_sp_spoken, mu_sp_reckoned, n_sp_reckoned, kd_sp_reckoned, mu_sp_lacks_own, n_sp_lacks_own, 
    kd_sp_lacks_own, mu_sp_is_wrong_kind, n_sp_is_wrong_kind, kd_sp_is_wrong_kind, mu_sp_is_too_great, n_sp_is_too_great, kd_sp_is_too_great, mu_sp_is_full, 
    n_sp_is_full, kd_sp_is_full, mu_sp_stuck_word, n_sp_stuck_word, kd_sp_stuck_word, mu_sp_push, n_sp_push, kd_sp_push, mu_sp_keep, n_sp_keep, kd_sp_keep, 
    mu_sp_push_new, n_sp_push_new, kd_sp_push_new, mu_sp_go, n_sp_go, kd_sp_go, mu_sp_own_values, n_sp_own_values, kd_sp_own_values, mu_sp_do_instruction, 
    n_sp_do_instruction, kd_sp_do_instruction, mu_sp_stepped, n_sp_stepped, kd_sp_stepped, mu_sp__law_cell, n_sp__law_cell, kd_sp__law_cell, mu_sp__law_raw, 
    n_sp__law_raw, kd_sp__law_raw, mu_sp__law_whole, n_sp__law_whole, kd_sp__law_whole, mu_sp__law_number, n_sp__law_number, kd_sp__law_number, mu_sp__law_value, 
    n_sp__law_value, kd_sp__law_value, mu_sp__law_values, n_sp__law_values, kd_sp__law_values, mu_sp__law_names, n_sp__law_names, kd_sp__law_names, 
    mu_sp__law_things, n_sp__law_things, kd_sp__law_things, mu_sp__law_frame, n_sp__law_frame, kd_sp__law_frame, mu_sp__law_frames, n_sp__law_frames, 
    kd_sp__law_frames, mu_sp__law_row, n_sp__law_row, kd_sp__law_row, mu_sp__law_program, n_sp__law_program, kd_sp__law_program, mu_sp__law_state, n_sp__law_state, 
    kd_sp__law_state, mu_sp__law_topped, n_sp__law_topped, kd_sp__law_topped, mu_sp__law_same_things, n_sp__law_same_things, kd_sp__law_same_things, 
    mu_sp__law_same_state, n_sp__law_same_state, kd_sp__law_same_state, mu_sp__law_copy, n_sp__law_copy, kd_sp__law_copy, mu_sp__law_is_box, n_sp__law_is_box, 
    kd_sp__law_is_box, mu_sp__law_due, n_sp__law_due, kd_sp__law_due, mu_sp_law, n_sp_law, kd_sp_law, mu_sp__law_alike, n_sp__law_alike, kd_sp__law_alike])
theorem program_ok (s : List Int) (ws : List Str) (hl : s.length ≤ 64) (hw : ws ≠ []) (hw2 : (ws.length : Int) < 1000) (hws : ∀ w, w ∈ ws → shapedB (.str w) = true) : ∃ d, (∃ bs, PrD ws bs ∧ d = .list (bs.map .list)) ∧ sp__law_program.F [.list (s.map .int), .list (ws.map .str)] = some (.ok (d, [])) := by
  have hk : ∃ ft : R.FT, ft.fn "_law_cell" = some sp__law_cell ∧ ft.fn "_law_row" = some sp__law_row ∧
    sp__law_program.F [.list (s.map .int), .list (ws.map .str)] = endD ⟨2, [], ⟨true, false⟩, fun _ => none⟩ (evSl ft b__law_program [.sh false (.list (s.map .int)), .sh false (.list (ws.map .str)), .no, .no, .no, .no, .no, .no, .no]) := ⟨_, rfl, rfl, un__law_program _ _⟩
  obtain ⟨ft, f1, f3, hk⟩ := hk
  rw [hk]
  apply EndsK.fin
  unfold b__law_program
  (rw [evSl_cons]; simp! [f1, fun k => cell_ok s k hl])
  (rw [evSl_cons]; simp!)
  (rw [evSl_cons]; simp!)
  rw [evSl_cons]
  simp! [evSl_nil]
  refine join_cps (fun e => ∃ nb : Nat, 1 ≤ nb ∧ nb ≤ 20 ∧ e = [.sh false (.list (s.map .int)), .sh false (.list (ws.map .str)), .sh true (.int (cellF s 0)), .sh true (.int nb), .no, .no, .no, .no, .no]) ?_ ?_
  · have h0 := Int.emod_nonneg (cellF s 0) (show (3 : Int) ≠ 0 by decide)
    have h1 := Int.emod_lt_of_pos (cellF s 0) (show (0 : Int) < 3 by decide)
    obtain ⟨n, hn⟩ := nat_of (show 0 ≤ 1 + cellF s 0 % 3 by omega)
    split
    · (rw [evSl_cons]; simp!)
      exact Nxt.nil ⟨20, by decide, by decide, rfl⟩
    · exact Nxt.mk ⟨n, by omega, by omega, by rw [hn]⟩
  rintro e ⟨nb, n1, n2, rfl⟩
  (rw [evSl_cons]; simp!)
  rw [evSl_cons, evSt_for1]
  simp! [rangeE_ok (Int.natCast_nonneg nb) (show (nb : Int) ≤ 1000 by omega)]
  refine loop_cps (fun j e => ∃ b bs s5 s6 s7, e = [.sh false (.list (s.map .int)), .sh false (.list (ws.map .str)), .sh true (.int (cellF s 0)), .sh true (.int nb), .ow true b (.list (bs.map .list)), s5, s6, s7, .no] ∧ mutOld (some s5) = false ∧ mutOld (some s6) = false ∧ mutOld (some s7) = false ∧
    bs.length = j ∧ ∀ r, r ∈ bs → r.length ≤ 60 ∧ ∀ d, d ∈ r → InsD ws nb r.length d) ⟨_, [], _, _, _, rfl, rfl, rfl, rfl, rfl, by simp⟩ ?_ ?_
  · rintro j e d hd ⟨b, bs, s5, s6, s7, rfl, h5, h6, h7, len, hr⟩
    obtain ⟨hj, rfl⟩ := range_at hd
    refine ⟨[.sh false (.list (s.map .int)), .sh false (.list (ws.map .str)), .sh true (.int (cellF s 0)), .sh true (.int nb), .ow true b (.list (bs.map .list)), .sh true (.int j), s6, s7, .no], by simp! [h5], ?_⟩
    (rw [evSl_cons]; simp! [f1, fun k => cell_ok s k hl, h6])
    rw [evSl_cons]
    simp! [evSl_nil, f1, fun k => cell_ok s k hl]
    refine join_cps (fun e => ∃ z : Nat, z ≤ 60 ∧ e = [.sh false (.list (s.map .int)), .sh false (.list (ws.map .str)), .sh true (.int (cellF s 0)), .sh true (.int nb), .ow true b (.list (bs.map .list)), .sh true (.int j), .sh true (.int z), s7, .no]) ?_ ?_
    · have h0 := Int.emod_nonneg (cellF s (20 + (j : Int))) (show (7 : Int) ≠ 0 by decide)
      have h1 := Int.emod_lt_of_pos (cellF s (20 + (j : Int))) (show (0 : Int) < 7 by decide)
      obtain ⟨n, hn⟩ := nat_of h0
      split
      · (rw [evSl_cons]; simp!)
        exact Nxt.nil ⟨60, by decide, rfl⟩
      · exact Nxt.mk ⟨n, by omega, by rw [hn]⟩
    rintro e ⟨z, hz, rfl⟩
    obtain ⟨b2, rs, e, l, q⟩ := lc_all (ft := ft) (i := 8) (src := .r (.v 6)) (e := .call "_law_row" (.cons (.v 0) (.cons (.bin .Add (.bin .Add (.k (.int 1000)) (.bin .Mult (.k (.int 61)) (.v 5))) (.v 8)) (.cons (.v 1) (.cons (.v 3) (.cons (.v 6) .nil))))))
      (env := [.sh false (.list (s.map .int)), .sh false (.list (ws.map .str)), .sh true (.int (cellF s 0)), .sh true (.int nb), .ow true b (.list (bs.map .list)), .sh true (.int j), .sh true (.int z), s7, .no]) (f := true) (ds := (List.range (z : Int).toNat).map fun j => .int (j : Nat)) (Pr := InsD ws nb z)
      (by simp! [rangeE_ok (Int.natCast_nonneg z) (show (z : Int) ≤ 1000 by omega)]) (by simp) (by rw [range_len]; exact lenOk_of (by omega)) (fun d hd => by
        obtain ⟨i, _, rfl⟩ := range_mem hd
        obtain ⟨d, hv, hF⟩ := row_ok s (1000 + 61 * (j : Int) + (i : Int)) ws nb z hl hw hw2 hws (by omega) (by omega)
        simp! [f3, hF]
        exact ⟨_, _, rfl, hv⟩)
    (rw [evSl_cons]; simp! [e, h7])
    (rw [evSl_cons]; simp!)
    (rw [evSl_cons]; simp! [len, show lenOk j = true from lenOk_of (by omega)])
    rw [range_len, Int.toNat_natCast] at l
    refine Nxt.nil ⟨_, bs ++ [rs], _, _, _, by rw [List.map_append]; rfl, rfl, rfl, rfl, by rw [List.length_append, len]; rfl, fun r hr' => ?_⟩
    rcases List.mem_append.mp hr' with y | y
    · exact hr r y
    · rw [List.mem_singleton.mp y]
      exact ⟨by omega, fun d hd => by rw [l]; exact q d hd⟩
  · rintro e ⟨b, bs, s5, s6, s7, rfl, h5, h6, h7, len, hr⟩
    rw [range_len] at len
    (rw [evSl_cons]; simp!)
    exact EndsK.ow ⟨bs, ⟨by omega, by omega, by rw [len]; exact hr⟩, rfl⟩
/-- the script's state, ahead of its end -/
theorem state_ok (s : List Int) (ws : List Str) (bs : List (List R.D)) (hl : s.length ≤ 64) (P : PrD ws bs) :
    ∃ d, (∃ ns fs es, (∀ n, n ∈ ns → 0 ≤ n) ∧ d = .tuple [.none, .list fs, .dict es] ∧ fs ≠ [] ∧ fs.length ≤ 60 ∧ (∀ f, f ∈ fs → FrD ns bs f) ∧ TsD ns bs.length es ∧ (∀ n, n ∈ ns → PyData.int n ∈ es.map (·.1)) ∧ es.length ≤ 900) ∧ sp__law_state.F [.list (s.map .int), .list (bs.map .list)] = some (.ok (d, [])) := by
  have hk : ∃ ft : R.FT, ft.fn "_law_names" = some sp__law_names ∧ ft.fn "_law_frames" = some sp__law_frames ∧ ft.fn "_law_things" = some sp__law_things ∧
    sp__law_state.F [.list (s.map .int), .list (bs.map .list)] = endD ⟨2, [], ⟨false, true⟩, fun _ => none⟩ (evSl ft b__law_state [.sh false (.list (s.map .int)), .sh false (.list (bs.map .list)), .no]) := ⟨_, rfl, rfl, rfl, un__law_state _ _⟩
  obtain ⟨ft, f1, f2, f3, hk⟩ := hk
  rw [hk]
  apply EndsK.fin
  unfold b__law_state
  obtain ⟨ns, ⟨hns, hn0⟩, e1⟩ := names_ok s hl
  obtain ⟨_, ⟨fs, rfl, h1, h2, h3⟩, e2⟩ := frames_ok s ns bs hl (by omega) P.pos (by have := P.len; omega) (fun r hr => by have := (P.row r hr).1; omega)
  obtain ⟨_, ⟨es, rfl, h4, h5, h6⟩, e3⟩ := things_ok s ns bs.length hl (by omega) P.pos
  (rw [evSl_cons]; simp! [f1, e1])
  (rw [evSl_cons]; simp! [f2, f3, e2, e3])
  exact EndsK.fr ⟨ns, fs, es, hn0, rfl, h1, h2, h3, h4, h5, h6⟩
end K03RWA
namespace K03RWA
open PySem PySem.Spec PyProof.Rows L2 R
/-- what the law's look takes, down to a depth -/
def Alk : Nat → R.D → Prop
  | 0, _ => False
  | n + 1, .tuple xs => xs.length ≤ 1000 ∧ ∀ x, x ∈ xs → Alk n x
  | n + 1, .list xs => xs.length ≤ 1000 ∧ ∀ x, x ∈ xs → Alk n x
  | n + 1, .str x => shapedB (.str x) = true
  | n + 1, .none => True
  | n + 1, .int _ => True
  | n + 1, .bool _ => False
  | n + 1, .dict _ => False
local macro_rules | `(tactic| simp! [$ls,*]) => `(tactic| simp only [lit_inj, shaped_lit, small_lit, len_lit, String.reduceEq, Nat.reduceLeDiff, upK_t, upK_f, noMutI_l, noMutI_d, evE_call, evE_v, evE_k, evE_dnew, evE_tup, evE_lst, 
    evE_bin, evE_cmp, evE_ch, evE_and, evE_or, andK_ok, orK_ok, evE_not, evE_ife, evE_bf, evE_isi, evE_ix, evE_sl, evE_vals, evE_me, evL_nil, evL_cons, evBL_nil, 
    evBL_cons, evO_no, evO_k, evT_def, evB_def, evSt_set, evSt_ife, evSt_ret, evSt_frz, evSt_app, evSt_sti, evSt_unp, retE_v, retE_k, retE_tup, retE_lst, retE_bin, 
    retE_cmp, retE_ch, retE_and, retE_or, retE_not, retE_ife, retE_call, retE_bf, retE_isi, retE_ix, retE_sl, retE_lc, brw_v, brw_k, brw_g, brw_neg, brw_tup, 
    brw_lst, brw_bin, brw_cmp, brw_ch, brw_and, brw_or, brw_not, brw_ife, brw_call, brw_bf, brw_isi, brw_ix, brw_sl, brw_lc, brw_vals, brw_ge, brw_dnew, brw_me, 
    bd_ok, bd_ok', exO_ok, exO_ok', lift_some, slotV_sh, slotB_sh, slotB_ow, toB_ok, toB_ok', ok_def, sc, callR_ok, bin_add, bin_sub, bin_mul, bin_div, bin_mod, 
    bf_len_l, bf_len_t, bf_len_d, bf_list_l, bf_list_t, bf_list_d, bf_tuple_l, bf_dict_d, bf_max, bf_int_b, cmp_gt, cmp_lt, cmp_le, cmp_ge, cmp_eqi, cmp_eqs, 
    cmp_nes, cmp_is, ix_l, ix_t, trE_ok, truthE, mul_l, mul_r, putS, mutOld_no, mutOld_sh, mutOld_ow, slotOf_t, slotOf_f, frzE, stiE, appE, keyOf_int0, isSc_int, 
    isSc_str, isSc_none, isSc_bool, noMut_int, noMut_str, noMut_none, noMut_bool, noMut_list, noMut_dict, List.getElem?_cons_succ, List.getElem?_cons_zero, 
    List.set_cons_succ, List.set_cons_zero, List.length_cons, List.length_nil, List.length_map, Nat.reduceAdd, Nat.reduceLT, Int.reduceLT, Int.reduceMul, 
    Int.reduceAdd, Int.reduceSub, Int.reduceNeg, Int.reduceLE, Int.reduceToNat, Nat.reducePow, Int.reducePow, Option.bind_some, bin_pow, bin_add_t, bin_add_l, 
    bin_add_s, sl_t, sl_l, isOwL_t, atI2, atI2i, isOw_t, and_self, true_and, and_true, if_true, if_false, Bool.false_eq_true, decide_true, decide_false, 
    decide_eq_true_eq, Option.map_some, Bool.or_true, Bool.true_and, Bool.and_true, Bool.false_or, Bool.or_false, Bool.false_and, Bool.and_false, Bool.true_or, 
    Bool.or_self, Bool.and_self, seqO_nx, seqO_rt, seqO_er, evSv_r, evSv_l, items_l, items_t, evS_l, evS_r, callK_ok, callK_b0, callK_b1, callK_b2, callK_b3, 
    callK_b4, eq_self, Int.toNat_natCast, isi_none_tuple_list, isi_none_tuple, isi_none_list, isi_none_str, isi_none_int, isi_none_bool, isi_none_dict, 
    isi_bool_tuple_list, isi_bool_tuple, isi_bool_list, isi_bool_str, isi_bool_int, isi_bool_bool, isi_bool_dict, isi_int_tuple_list, isi_int_tuple, isi_int_list, 
    isi_int_str, isi_int_int, isi_int_bool, isi_int_dict, isi_str_tuple_list, isi_str_tuple, isi_str_list, isi_str_str, isi_str_int, isi_str_bool, isi_str_dict, 
    isi_list_tuple_list, isi_list_tuple, isi_list_list, isi_list_str, isi_list_int, isi_list_bool, isi_list_dict, isi_tuple_tuple_list, isi_tuple_tuple, 
    isi_tuple_list, isi_tuple_str, isi_tuple_int, isi_tuple_bool, isi_tuple_dict, isi_dict_tuple_list, isi_dict_tuple, isi_dict_list, isi_dict_str, isi_dict_int, 
    isi_dict_bool, isi_dict_dict, cmp_nei, cmp_neb, cmp_eqb, cmp_isb, cmp_isnb, cmp_in_d, cmp_nin_d, ix_d, bf_all_l, Int.cast_ofNat_Int, Int.ofNat_zero, 
    Int.ofNat_one, Int.reduceEq, Int.reduceNe, Nat.reduceEqDiff, not_true_eq_false, not_false_eq_true, Bool.not_true, Bool.not_false, Bool.not_not, 
    Option.isSome_some, Option.isSome_none, Bool.not_eq_true, Bool.and_eq_true, Bool.or_eq_true, Bool.not_eq_false, putAll_nil, putAll_cons, hideE, evC_so, cmp_nn, 
    cmp_en, bf_sorted, evSt_tl, evTl_set, evTl_tst, evTl_wrk, loE_cons, loE_nil, loS_no, loS_sh, loS_ow, oldFree_nil, oldFree_no, oldFree_sh, oldFree_ow, ne_eq, 
    evE_neg, bf_min, evE_g, at_last, cut_init, evO_so, cmp_isnot, evSt_mat, evCs_nil, putB_nil, bf_max_l, mu_sp_is_number, n_sp_is_number, kd_sp_is_number, 
    mu_sp_thing_of, n_sp_thing_of, kd_sp_thing_of, mu_sp_is_box, n_sp_is_box, kd_sp_is_box, mu_sp_is_function, n_sp_is_function, kd_sp_is_function, mu_sp_new_number, 
    n_sp_new_number, kd_sp_new_number, mu_sp_spoken, n_sp_spoken, kd_sp_spoken, mu_sp_reckoned, n_sp_reckoned, kd_sp_reckoned, mu_sp_lacks_own, n_sp_lacks_own, 
    kd_sp_lacks_own, mu_sp_is_wrong_kind, n_sp_is_wrong_kind, kd_sp_is_wrong_kind, mu_sp_is_too_great, n_sp_is_too_great, kd_sp_is_too_great, mu_sp_is_full, 
    n_sp_is_full, kd_sp_is_full, mu_sp_stuck_word, n_sp_stuck_word, kd_sp_stuck_word, mu_sp_push, n_sp_push, kd_sp_push, mu_sp_keep, n_sp_keep, kd_sp_keep, 
    mu_sp_push_new, n_sp_push_new, kd_sp_push_new, mu_sp_go, n_sp_go, kd_sp_go, mu_sp_own_values, n_sp_own_values, kd_sp_own_values, mu_sp_do_instruction, 
    n_sp_do_instruction, kd_sp_do_instruction, mu_sp_stepped, n_sp_stepped, kd_sp_stepped, mu_sp__law_cell, n_sp__law_cell, kd_sp__law_cell, mu_sp__law_raw, 
    n_sp__law_raw, kd_sp__law_raw, mu_sp__law_whole, n_sp__law_whole, kd_sp__law_whole, mu_sp__law_number, n_sp__law_number, kd_sp__law_number, mu_sp__law_value, 
    n_sp__law_value, kd_sp__law_value, mu_sp__law_values, n_sp__law_values, kd_sp__law_values, mu_sp__law_names, n_sp__law_names, kd_sp__law_names, 
    mu_sp__law_things, n_sp__law_things, kd_sp__law_things, mu_sp__law_frame, n_sp__law_frame, kd_sp__law_frame, mu_sp__law_frames, n_sp__law_frames, 
    kd_sp__law_frames, mu_sp__law_row, n_sp__law_row, kd_sp__law_row, mu_sp__law_program, n_sp__law_program, kd_sp__law_program, mu_sp__law_state, n_sp__law_state, 
    kd_sp__law_state, mu_sp__law_topped, n_sp__law_topped, kd_sp__law_topped, mu_sp__law_same_things, n_sp__law_same_things, kd_sp__law_same_things, 
    mu_sp__law_same_state, n_sp__law_same_state, kd_sp__law_same_state, mu_sp__law_copy, n_sp__law_copy, kd_sp__law_copy, mu_sp__law_is_box, n_sp__law_is_box, 
    kd_sp__law_is_box, mu_sp__law_due, n_sp__law_due, kd_sp__law_due, mu_sp_law, n_sp_law, kd_sp_law, mu_sp__law_alike, n_sp__law_alike, kd_sp__law_alike, $ls,*])
local macro_rules | `(tactic| simp!) => `(tactic| simp only [lit_inj, shaped_lit, small_lit, len_lit, String.reduceEq, Nat.reduceLeDiff, upK_t, upK_f, noMutI_l, noMutI_d, evE_call, evE_v, evE_k, evE_dnew, evE_tup, evE_lst, 
    evE_bin, evE_cmp, evE_ch, evE_and, evE_or, andK_ok, orK_ok, evE_not, evE_ife, evE_bf, evE_isi, evE_ix, evE_sl, evE_vals, evE_me, evL_nil, evL_cons, evBL_nil, 
    evBL_cons, evO_no, evO_k, evT_def, evB_def, evSt_set, evSt_ife, evSt_ret, evSt_frz, evSt_app, evSt_sti, evSt_unp, retE_v, retE_k, retE_tup, retE_lst, retE_bin, 
    retE_cmp, retE_ch, retE_and, retE_or, retE_not, retE_ife, retE_call, retE_bf, retE_isi, retE_ix, retE_sl, retE_lc, brw_v, brw_k, brw_g, brw_neg, brw_tup, 
    brw_lst, brw_bin, brw_cmp, brw_ch, brw_and, brw_or, brw_not, brw_ife, brw_call, brw_bf, brw_isi, brw_ix, brw_sl, brw_lc, brw_vals, brw_ge, brw_dnew, brw_me, 
    bd_ok, bd_ok', exO_ok, exO_ok', lift_some, slotV_sh, slotB_sh, slotB_ow, toB_ok, toB_ok', ok_def, sc, callR_ok, bin_add, bin_sub, bin_mul, bin_div, bin_mod, 
    bf_len_l, bf_len_t, bf_len_d, bf_list_l, bf_list_t, bf_list_d, bf_tuple_l, bf_dict_d, bf_max, bf_int_b, cmp_gt, cmp_lt, cmp_le, cmp_ge, cmp_eqi, cmp_eqs, 
    cmp_nes, cmp_is, ix_l, ix_t, trE_ok, truthE, mul_l, mul_r, putS, mutOld_no, mutOld_sh, mutOld_ow, slotOf_t, slotOf_f, frzE, stiE, appE, keyOf_int0, isSc_int, 
    isSc_str, isSc_none, isSc_bool, noMut_int, noMut_str, noMut_none, noMut_bool, noMut_list, noMut_dict, List.getElem?_cons_succ, List.getElem?_cons_zero, 
    List.set_cons_succ, List.set_cons_zero, List.length_cons, List.length_nil, List.length_map, Nat.reduceAdd, Nat.reduceLT, Int.reduceLT, Int.reduceMul, 
    Int.reduceAdd, Int.reduceSub, Int.reduceNeg, Int.reduceLE, Int.reduceToNat, Nat.reducePow, Int.reducePow, Option.bind_some, bin_pow, bin_add_t, bin_add_l, 
    bin_add_s, sl_t, sl_l, isOwL_t, atI2, atI2i, isOw_t, and_self, true_and, and_true, if_true, if_false, Bool.false_eq_true, decide_true, decide_false, 
    decide_eq_true_eq, Option.map_some, Bool.or_true, Bool.true_and, Bool.and_true, Bool.false_or, Bool.or_false, Bool.false_and, Bool.and_false, Bool.true_or, 
    Bool.or_self, Bool.and_self, seqO_nx, seqO_rt, seqO_er, evSv_r, evSv_l, items_l, items_t, evS_l, evS_r, callK_ok, callK_b0, callK_b1, callK_b2, callK_b3, 
    callK_b4, eq_self, Int.toNat_natCast, isi_none_tuple_list, isi_none_tuple, isi_none_list, isi_none_str, isi_none_int, isi_none_bool, isi_none_dict, 
    isi_bool_tuple_list, isi_bool_tuple, isi_bool_list, isi_bool_str, isi_bool_int, isi_bool_bool, isi_bool_dict, isi_int_tuple_list, isi_int_tuple, isi_int_list, 
    isi_int_str, isi_int_int, isi_int_bool, isi_int_dict, isi_str_tuple_list, isi_str_tuple, isi_str_list, isi_str_str, isi_str_int, isi_str_bool, isi_str_dict, 
    isi_list_tuple_list, isi_list_tuple, isi_list_list, isi_list_str, isi_list_int, isi_list_bool, isi_list_dict, isi_tuple_tuple_list, isi_tuple_tuple, 
    isi_tuple_list, isi_tuple_str, isi_tuple_int, isi_tuple_bool, isi_tuple_dict, isi_dict_tuple_list, isi_dict_tuple, isi_dict_list, isi_dict_str, isi_dict_int, 
    isi_dict_bool, isi_dict_dict, cmp_nei, cmp_neb, cmp_eqb, cmp_isb, cmp_isnb, cmp_in_d, cmp_nin_d, ix_d, bf_all_l, Int.cast_ofNat_Int, Int.ofNat_zero, 
    Int.ofNat_one, Int.reduceEq, Int.reduceNe, Nat.reduceEqDiff, not_true_eq_false, not_false_eq_true, Bool.not_true, Bool.not_false, Bool.not_not, 
    Option.isSome_some, Option.isSome_none, Bool.not_eq_true, Bool.and_eq_true, Bool.or_eq_true, Bool.not_eq_false, putAll_nil, putAll_cons, hideE, evC_so, cmp_nn, 
    cmp_en, bf_sorted, evSt_tl, evTl_set, evTl_tst, evTl_wrk, loE_cons, loE_nil, loS_no, loS_sh, loS_ow, oldFree_nil, oldFree_no, oldFree_sh, oldFree_ow, ne_eq, 
    evE_neg, bf_min, evE_g, at_last, cut_init, evO_so, cmp_isnot, evSt_mat, evCs_nil, putB_nil, bf_max_l, mu_sp_is_number, n_sp_is_number, kd_sp_is_number, 
    mu_sp_thing_of, n_sp_thing_of, kd_sp_thing_of, mu_sp_is_box, n_sp_is_box, kd_sp_is_box, mu_sp_is_function, n_sp_is_function, kd_sp_is_function, mu_sp_new_number, 
    n_sp_new_number, kd_sp_new_number, mu_sp_spoken, n_sp_spoken, kd_sp_spoken, mu_sp_reckoned, n_sp_reckoned, kd_sp_reckoned, mu_sp_lacks_own, n_sp_lacks_own, 
    kd_sp_lacks_own, mu_sp_is_wrong_kind, n_sp_is_wrong_kind, kd_sp_is_wrong_kind, mu_sp_is_too_great, n_sp_is_too_great, kd_sp_is_too_great, mu_sp_is_full, 
    n_sp_is_full, kd_sp_is_full, mu_sp_stuck_word, n_sp_stuck_word, kd_sp_stuck_word, mu_sp_push, n_sp_push, kd_sp_push, mu_sp_keep, n_sp_keep, kd_sp_keep, 
    mu_sp_push_new, n_sp_push_new, kd_sp_push_new, mu_sp_go, n_sp_go, kd_sp_go, mu_sp_own_values, n_sp_own_values, kd_sp_own_values, mu_sp_do_instruction, 
    n_sp_do_instruction, kd_sp_do_instruction, mu_sp_stepped, n_sp_stepped, kd_sp_stepped, mu_sp__law_cell, n_sp__law_cell, kd_sp__law_cell, mu_sp__law_raw, 
    n_sp__law_raw, kd_sp__law_raw, mu_sp__law_whole, n_sp__law_whole, kd_sp__law_whole, mu_sp__law_number, n_sp__law_number, kd_sp__law_number, mu_sp__law_value, 
    n_sp__law_value, kd_sp__law_value, mu_sp__law_values, n_sp__law_values, kd_sp__law_values, mu_sp__law_names, n_sp__law_names, kd_sp__law_names, 
    mu_sp__law_things, n_sp__law_things, kd_sp__law_things, mu_sp__law_frame, n_sp__law_frame, kd_sp__law_frame, mu_sp__law_frames, n_sp__law_frames, 
    kd_sp__law_frames, mu_sp__law_row, n_sp__law_row, kd_sp__law_row, mu_sp__law_program, n_sp__law_program, kd_sp__law_program, mu_sp__law_state, n_sp__law_state, 
    kd_sp__law_state, mu_sp__law_topped, n_sp__law_topped, kd_sp__law_topped, mu_sp__law_same_things, n_sp__law_same_things, kd_sp__law_same_things, 
    mu_sp__law_same_state, n_sp__law_same_state, kd_sp__law_same_state, mu_sp__law_copy, n_sp__law_copy, kd_sp__law_copy, mu_sp__law_is_box, n_sp__law_is_box, 
    kd_sp__law_is_box, mu_sp__law_due, n_sp__law_due, kd_sp__law_due, mu_sp_law, n_sp_law, kd_sp_law, mu_sp__law_alike, n_sp__law_alike, kd_sp__law_alike])
theorem whole_ok (i : Int) : sp__law_whole.F [.int i] = some (.ok (.bool true, [])) := by
  have hk : ∃ ft : R.FT, sp__law_whole.F [.int i] = endD ⟨1, [], ⟨false, false⟩, fun _ => none⟩ (evSl ft b__law_whole [.sh false (.int i)]) := ⟨_, un__law_whole _⟩
  obtain ⟨ft, hk⟩ := hk
  rw [hk]
  apply Ends.eq
  unfold b__law_whole
  (rw [evSl_cons]; simp!)
  exact Ends.mk rfl
theorem alike_ok : ∀ (n : Nat) (d : R.D), Alk n d → (sp__law_alike n).F [d, d] = some (.ok (.bool true, []))
  | 0, _, h => h.elim
  | n + 1, d, h => by
    have hk : ∃ ft : R.FT, ft.fn "_law_alike" = some (sp__law_alike n) ∧ ft.fn "_law_whole" = some sp__law_whole ∧ (sp__law_alike (n + 1)).F [d, d] = endD ⟨2, [], ⟨false, false⟩, fun _ => none⟩ (evSl ft b__law_alike [.sh false d, .sh false d, .no]) := ⟨_, rfl, rfl, un__law_alike _ _ _⟩
    obtain ⟨ft, f1, f2, hk⟩ := hk
    rw [hk]
    apply Ends.eq
    unfold b__law_alike
    have seq : ∀ (a : R.D) (xs : List R.D), xs.length ≤ 1000 → (∀ x, x ∈ xs → Alk n x) → (a = .tuple xs ∨ a = .list xs) → ∃ b rs, evE ft (.lc 2 (.r (.bf "len" (.cons (.v 1) .nil))) .no (.call "_law_alike" (.cons (.ix (.v 0) (.v 2)) (.cons (.ix (.v 1) (.v 2)) .nil)))) [.sh false a, .sh false a, .no] = some (.ok (⟨true, b⟩, .list rs)) ∧
        rs.length = ((List.range (xs.length : Int).toNat).map fun j => PyData.int (j : Nat)).length ∧ ∀ r, r ∈ rs → r = .bool true := fun a xs hl hx ha => by
      refine lc_all (f := true) (ds := (List.range (xs.length : Int).toNat).map fun j => .int (j : Nat)) ?_ (by simp) (by rw [range_len]; exact lenOk_of (by omega)) (fun d hd => ?_)
      · rcases ha with rfl | rfl <;> simp! [rangeE_ok (Int.natCast_nonneg xs.length) (show (xs.length : Int) ≤ 1000 by omega)]
      · obtain ⟨j, hj, rfl⟩ := range_mem hd
        have hj' : j < xs.length := by omega
        have e : L2.atI xs (j : Int) = some xs[j] := L2.atI_nat (List.getElem?_eq_getElem hj')
        have ih := alike_ok n xs[j] (hx _ (List.getElem_mem hj'))
        rcases ha with rfl | rfl
        · simp! [f1, e, ih]; exact ⟨_, _, rfl, rfl⟩
        · simp! [f1, e, ih]; exact ⟨_, _, rfl, rfl⟩
    cases d with
    | none => (rw [evSl_cons]; simp!); rw [evSl_nil, seqO_nx]; (rw [evSl_cons]; simp!); rw [evSl_nil, seqO_nx]; (rw [evSl_cons]; simp!); (rw [evSl_cons]; simp!); exact Ends.mk rfl
    | bool b => exact h.elim
    | int i => (rw [evSl_cons]; simp!); rw [evSl_nil, seqO_nx]; (rw [evSl_cons]; simp!); rw [evSl_nil, seqO_nx]; (rw [evSl_cons]; simp!); rw [evSl_nil, seqO_nx]; (rw [evSl_cons]; simp! [f2, whole_ok]); exact Ends.mk rfl
    | str x =>
      have hx : shapedB (.str x) = true := h
      (rw [evSl_cons]; simp!); rw [evSl_nil, seqO_nx]; (rw [evSl_cons]; simp!); (rw [evSl_cons]; simp! [hx]); exact Ends.mk rfl
    | dict es => exact h.elim
    | tuple xs =>
      obtain ⟨b, rs, e, l, q⟩ := seq (.tuple xs) xs h.1 h.2 (.inl rfl)
      (rw [evSl_cons]; simp!); (rw [evSl_cons]; simp!); rw [evSl_nil, seqO_nx]; (rw [evSl_cons]; simp!); rw [evSl_nil, seqO_nx]; (rw [evSl_cons]; simp! [e, bools_all q, all_rep]); exact Ends.mk rfl
    | list xs =>
      obtain ⟨b, rs, e, l, q⟩ := seq (.list xs) xs h.1 h.2 (.inr rfl)
      (rw [evSl_cons]; simp!); (rw [evSl_cons]; simp!); rw [evSl_nil, seqO_nx]; (rw [evSl_cons]; simp!); rw [evSl_nil, seqO_nx]; (rw [evSl_cons]; simp! [e, bools_all q, all_rep]); exact Ends.mk rfl
end K03RWA
namespace K03RWA
open PySem PySem.Spec PyProof.Rows L2 R
theorem Alk.up : ∀ {n : Nat} {d : R.D}, Alk n d → Alk (n + 1) d
  | 0, _, h => h.elim
  | n + 1, .tuple xs, h => ⟨h.1, fun x hx => (h.2 x hx).up⟩
  | n + 1, .list xs, h => ⟨h.1, fun x hx => (h.2 x hx).up⟩
  | n + 1, .str x, h => h
  | n + 1, .none, h => h
  | n + 1, .int _, h => h
  | n + 1, .bool _, h => h.elim
  | n + 1, .dict _, h => h.elim
theorem Alk.le {n m : Nat} {d : R.D} (h : Alk n d) (e : n ≤ m) : Alk m d := by
  induction e with
  | refl => exact h
  | step _ ih => exact ih.up
/-- two dicts that tell the same -/
structure SameT (xs ys : List (R.D × R.D)) : Prop where
  len : xs.length = ys.length
  all : ∀ e, e ∈ xs → ∃ n : Int, e.1 = .int n ∧ dgetE xs (.inl n) = some e.2 ∧ dgetE ys (.inl n) = some e.2 ∧ Alk 8 e.2
local macro_rules | `(tactic| simp! [$ls,*]) => `(tactic| simp only [lit_inj, shaped_lit, small_lit, len_lit, String.reduceEq, Nat.reduceLeDiff, upK_t, upK_f, noMutI_l, noMutI_d, evE_call, evE_v, evE_k, evE_dnew, evE_tup, evE_lst, 
    evE_bin, evE_cmp, evE_ch, evE_and, evE_or, andK_ok, orK_ok, evE_not, evE_ife, evE_bf, evE_isi, evE_ix, evE_sl, evE_vals, evE_me, evL_nil, evL_cons, evBL_nil, 
    evBL_cons, evO_no, evO_k, evT_def, evB_def, evSt_set, evSt_ife, evSt_ret, evSt_frz, evSt_app, evSt_sti, evSt_unp, retE_v, retE_k, retE_tup, retE_lst, retE_bin, 
    retE_cmp, retE_ch, retE_and, retE_or, retE_not, retE_ife, retE_call, retE_bf, retE_isi, retE_ix, retE_sl, retE_lc, brw_v, brw_k, brw_g, brw_neg, brw_tup, 
    brw_lst, brw_bin, brw_cmp, brw_ch, brw_and, brw_or, brw_not, brw_ife, brw_call, brw_bf, brw_isi, brw_ix, brw_sl, brw_lc, brw_vals, brw_ge, brw_dnew, brw_me, 
    bd_ok, bd_ok', exO_ok, exO_ok', lift_some, slotV_sh, slotB_sh, slotB_ow, toB_ok, toB_ok', ok_def, sc, callR_ok, bin_add, bin_sub, bin_mul, bin_div, bin_mod, 
    bf_len_l, bf_len_t, bf_len_d, bf_list_l, bf_list_t, bf_list_d, bf_tuple_l, bf_dict_d, bf_max, bf_int_b, cmp_gt, cmp_lt, cmp_le, cmp_ge, cmp_eqi, cmp_eqs, 
    cmp_nes, cmp_is, ix_l, ix_t, trE_ok, truthE, mul_l, mul_r, putS, mutOld_no, mutOld_sh, mutOld_ow, slotOf_t, slotOf_f, frzE, stiE, appE, keyOf_int0, isSc_int, 
    isSc_str, isSc_none, isSc_bool, noMut_int, noMut_str, noMut_none, noMut_bool, noMut_list, noMut_dict, List.getElem?_cons_succ, List.getElem?_cons_zero, 
    List.set_cons_succ, List.set_cons_zero, List.length_cons, List.length_nil, List.length_map, Nat.reduceAdd, Nat.reduceLT, Int.reduceLT, Int.reduceMul, 
    Int.reduceAdd, Int.reduceSub, Int.reduceNeg, Int.reduceLE, Int.reduceToNat, Nat.reducePow, Int.reducePow, Option.bind_some, bin_pow, bin_add_t, bin_add_l, 
    bin_add_s, sl_t, sl_l, isOwL_t, atI2, atI2i, isOw_t, and_self, true_and, and_true, if_true, if_false, Bool.false_eq_true, decide_true, decide_false, 
    decide_eq_true_eq, Option.map_some, Bool.or_true, Bool.true_and, Bool.and_true, Bool.false_or, Bool.or_false, Bool.false_and, Bool.and_false, Bool.true_or, 
    Bool.or_self, Bool.and_self, seqO_nx, seqO_rt, seqO_er, evSv_r, evSv_l, items_l, items_t, evS_l, evS_r, callK_ok, callK_b0, callK_b1, callK_b2, callK_b3, 
    callK_b4, eq_self, Int.toNat_natCast, isi_none_tuple_list, isi_none_tuple, isi_none_list, isi_none_str, isi_none_int, isi_none_bool, isi_none_dict, 
    isi_bool_tuple_list, isi_bool_tuple, isi_bool_list, isi_bool_str, isi_bool_int, isi_bool_bool, isi_bool_dict, isi_int_tuple_list, isi_int_tuple, isi_int_list, 
    isi_int_str, isi_int_int, isi_int_bool, isi_int_dict, isi_str_tuple_list, isi_str_tuple, isi_str_list, isi_str_str, isi_str_int, isi_str_bool, isi_str_dict, 
    isi_list_tuple_list, isi_list_tuple, isi_list_list, isi_list_str, isi_list_int, isi_list_bool, isi_list_dict, isi_tuple_tuple_list, isi_tuple_tuple, 
    isi_tuple_list, isi_tuple_str, isi_tuple_int, isi_tuple_bool, isi_tuple_dict, isi_dict_tuple_list, isi_dict_tuple, isi_dict_list, isi_dict_str, isi_dict_int, 
    isi_dict_bool, isi_dict_dict, cmp_nei, cmp_neb, cmp_eqb, cmp_isb, cmp_isnb, cmp_in_d, cmp_nin_d, ix_d, bf_all_l, Int.cast_ofNat_Int, Int.ofNat_zero, 
    Int.ofNat_one, Int.reduceEq, Int.reduceNe, Nat.reduceEqDiff, not_true_eq_false, not_false_eq_true, Bool.not_true, Bool.not_false, Bool.not_not, 
    Option.isSome_some, Option.isSome_none, Bool.not_eq_true, Bool.and_eq_true, Bool.or_eq_true, Bool.not_eq_false, putAll_nil, putAll_cons, hideE, evC_so, cmp_nn, 
    cmp_en, bf_sorted, evSt_tl, evTl_set, evTl_tst, evTl_wrk, loE_cons, loE_nil, loS_no, loS_sh, loS_ow, oldFree_nil, oldFree_no, oldFree_sh, oldFree_ow, ne_eq, 
    evE_neg, bf_min, evE_g, at_last, cut_init, evO_so, cmp_isnot, evSt_mat, evCs_nil, putB_nil, bf_max_l, mu_sp_is_number, n_sp_is_number, kd_sp_is_number, 
    mu_sp_thing_of, n_sp_thing_of, kd_sp_thing_of, mu_sp_is_box, n_sp_is_box, kd_sp_is_box, mu_sp_is_function, n_sp_is_function, kd_sp_is_function, mu_sp_new_number, 
    n_sp_new_number, kd_sp_new_number, mu_sp_spoken, n_sp_spoken, kd_sp_spoken, mu_sp_reckoned, n_sp_reckoned, kd_sp_reckoned, mu_sp_lacks_own, n_sp_lacks_own, 
    kd_sp_lacks_own, mu_sp_is_wrong_kind, n_sp_is_wrong_kind, kd_sp_is_wrong_kind, mu_sp_is_too_great, n_sp_is_too_great, kd_sp_is_too_great, mu_sp_is_full, 
    n_sp_is_full, kd_sp_is_full, mu_sp_stuck_word, n_sp_stuck_word, kd_sp_stuck_word, mu_sp_push, n_sp_push, kd_sp_push, mu_sp_keep, n_sp_keep, kd_sp_keep, 
    mu_sp_push_new, n_sp_push_new, kd_sp_push_new, mu_sp_go, n_sp_go, kd_sp_go, mu_sp_own_values, n_sp_own_values, kd_sp_own_values, mu_sp_do_instruction, 
    n_sp_do_instruction, kd_sp_do_instruction, mu_sp_stepped, n_sp_stepped, kd_sp_stepped, mu_sp__law_cell, n_sp__law_cell, kd_sp__law_cell, mu_sp__law_raw, 
    n_sp__law_raw, kd_sp__law_raw, mu_sp__law_whole, n_sp__law_whole, kd_sp__law_whole, mu_sp__law_number, n_sp__law_number, kd_sp__law_number, mu_sp__law_value, 
    n_sp__law_value, kd_sp__law_value, mu_sp__law_values, n_sp__law_values, kd_sp__law_values, mu_sp__law_names, n_sp__law_names, kd_sp__law_names, 
    mu_sp__law_things, n_sp__law_things, kd_sp__law_things, mu_sp__law_frame, n_sp__law_frame, kd_sp__law_frame, mu_sp__law_frames, n_sp__law_frames, 
    kd_sp__law_frames, mu_sp__law_row, n_sp__law_row, kd_sp__law_row, mu_sp__law_program, n_sp__law_program, kd_sp__law_program, mu_sp__law_state, n_sp__law_state, 
    kd_sp__law_state, mu_sp__law_topped, n_sp__law_topped, kd_sp__law_topped, mu_sp__law_same_things, n_sp__law_same_things, kd_sp__law_same_things, 
    mu_sp__law_same_state, n_sp__law_same_state, kd_sp__law_same_state, mu_sp__law_copy, n_sp__law_copy, kd_sp__law_copy, mu_sp__law_is_box, n_sp__law_is_box, 
    kd_sp__law_is_box, mu_sp__law_due, n_sp__law_due, kd_sp__law_due, mu_sp_law, n_sp_law, kd_sp_law, mu_sp__law_alike, n_sp__law_alike, kd_sp__law_alike, $ls,*])
local macro_rules | `(tactic| simp!) => `(tactic| simp only [lit_inj, shaped_lit, small_lit, len_lit, String.reduceEq, Nat.reduceLeDiff, upK_t, upK_f, noMutI_l, noMutI_d, evE_call, evE_v, evE_k, evE_dnew, evE_tup, evE_lst, 
    evE_bin, evE_cmp, evE_ch, evE_and, evE_or, andK_ok, orK_ok, evE_not, evE_ife, evE_bf, evE_isi, evE_ix, evE_sl, evE_vals, evE_me, evL_nil, evL_cons, evBL_nil, 
    evBL_cons, evO_no, evO_k, evT_def, evB_def, evSt_set, evSt_ife, evSt_ret, evSt_frz, evSt_app, evSt_sti, evSt_unp, retE_v, retE_k, retE_tup, retE_lst, retE_bin, 
    retE_cmp, retE_ch, retE_and, retE_or, retE_not, retE_ife, retE_call, retE_bf, retE_isi, retE_ix, retE_sl, retE_lc, brw_v, brw_k, brw_g, brw_neg, brw_tup, 
    brw_lst, brw_bin, brw_cmp, brw_ch, brw_and, brw_or, brw_not, brw_ife, brw_call, brw_bf, brw_isi, brw_ix, brw_sl, brw_lc, brw_vals, brw_ge, brw_dnew, brw_me, 
    bd_ok, bd_ok', exO_ok, exO_ok', lift_some, slotV_sh, slotB_sh, slotB_ow, toB_ok, toB_ok', ok_def, sc, callR_ok, bin_add, bin_sub, bin_mul, bin_div, bin_mod, 
    bf_len_l, bf_len_t, bf_len_d, bf_list_l, bf_list_t, bf_list_d, bf_tuple_l, bf_dict_d, bf_max, bf_int_b, cmp_gt, cmp_lt, cmp_le, cmp_ge, cmp_eqi, cmp_eqs, 
    cmp_nes, cmp_is, ix_l, ix_t, trE_ok, truthE, mul_l, mul_r, putS, mutOld_no, mutOld_sh, mutOld_ow, slotOf_t, slotOf_f, frzE, stiE, appE, keyOf_int0, isSc_int, 
    isSc_str, isSc_none, isSc_bool, noMut_int, noMut_str, noMut_none, noMut_bool, noMut_list, noMut_dict, List.getElem?_cons_succ, List.getElem?_cons_zero, 
    List.set_cons_succ, List.set_cons_zero, List.length_cons, List.length_nil, List.length_map, Nat.reduceAdd, Nat.reduceLT, Int.reduceLT, Int.reduceMul, 
    Int.reduceAdd, Int.reduceSub, Int.reduceNeg, Int.reduceLE, Int.reduceToNat, Nat.reducePow, Int.reducePow, Option.bind_some, bin_pow, bin_add_t, bin_add_l, 
    bin_add_s, sl_t, sl_l, isOwL_t, atI2, atI2i, isOw_t, and_self, true_and, and_true, if_true, if_false, Bool.false_eq_true, decide_true, decide_false, 
    decide_eq_true_eq, Option.map_some, Bool.or_true, Bool.true_and, Bool.and_true, Bool.false_or, Bool.or_false, Bool.false_and, Bool.and_false, Bool.true_or, 
    Bool.or_self, Bool.and_self, seqO_nx, seqO_rt, seqO_er, evSv_r, evSv_l, items_l, items_t, evS_l, evS_r, callK_ok, callK_b0, callK_b1, callK_b2, callK_b3, 
    callK_b4, eq_self, Int.toNat_natCast, isi_none_tuple_list, isi_none_tuple, isi_none_list, isi_none_str, isi_none_int, isi_none_bool, isi_none_dict, 
    isi_bool_tuple_list, isi_bool_tuple, isi_bool_list, isi_bool_str, isi_bool_int, isi_bool_bool, isi_bool_dict, isi_int_tuple_list, isi_int_tuple, isi_int_list, 
    isi_int_str, isi_int_int, isi_int_bool, isi_int_dict, isi_str_tuple_list, isi_str_tuple, isi_str_list, isi_str_str, isi_str_int, isi_str_bool, isi_str_dict, 
    isi_list_tuple_list, isi_list_tuple, isi_list_list, isi_list_str, isi_list_int, isi_list_bool, isi_list_dict, isi_tuple_tuple_list, isi_tuple_tuple, 
    isi_tuple_list, isi_tuple_str, isi_tuple_int, isi_tuple_bool, isi_tuple_dict, isi_dict_tuple_list, isi_dict_tuple, isi_dict_list, isi_dict_str, isi_dict_int, 
    isi_dict_bool, isi_dict_dict, cmp_nei, cmp_neb, cmp_eqb, cmp_isb, cmp_isnb, cmp_in_d, cmp_nin_d, ix_d, bf_all_l, Int.cast_ofNat_Int, Int.ofNat_zero, 
    Int.ofNat_one, Int.reduceEq, Int.reduceNe, Nat.reduceEqDiff, not_true_eq_false, not_false_eq_true, Bool.not_true, Bool.not_false, Bool.not_not, 
    Option.isSome_some, Option.isSome_none, Bool.not_eq_true, Bool.and_eq_true, Bool.or_eq_true, Bool.not_eq_false, putAll_nil, putAll_cons, hideE, evC_so, cmp_nn, 
    cmp_en, bf_sorted, evSt_tl, evTl_set, evTl_tst, evTl_wrk, loE_cons, loE_nil, loS_no, loS_sh, loS_ow, oldFree_nil, oldFree_no, oldFree_sh, oldFree_ow, ne_eq, 
    evE_neg, bf_min, evE_g, at_last, cut_init, evO_so, cmp_isnot, evSt_mat, evCs_nil, putB_nil, bf_max_l, mu_sp_is_number, n_sp_is_number, kd_sp_is_number, 
    mu_sp_thing_of, n_sp_thing_of, kd_sp_thing_of, mu_sp_is_box, n_sp_is_box, kd_sp_is_box, mu_sp_is_function, n_sp_is_function, kd_sp_is_function, mu_sp_new_number, 
    n_sp_new_number, kd_sp_new_number, mu_sp_spoken, n_sp_spoken, kd_sp_spoken, mu_sp_reckoned, n_sp_reckoned, kd_sp_reckoned, mu_sp_lacks_own, n_sp_lacks_own, 
    kd_sp_lacks_own, mu_sp_is_wrong_kind, n_sp_is_wrong_kind, kd_sp_is_wrong_kind, mu_sp_is_too_great, n_sp_is_too_great, kd_sp_is_too_great, mu_sp_is_full, 
    n_sp_is_full, kd_sp_is_full, mu_sp_stuck_word, n_sp_stuck_word, kd_sp_stuck_word, mu_sp_push, n_sp_push, kd_sp_push, mu_sp_keep, n_sp_keep, kd_sp_keep, 
    mu_sp_push_new, n_sp_push_new, kd_sp_push_new, mu_sp_go, n_sp_go, kd_sp_go, mu_sp_own_values, n_sp_own_values, kd_sp_own_values, mu_sp_do_instruction, 
    n_sp_do_instruction, kd_sp_do_instruction, mu_sp_stepped, n_sp_stepped, kd_sp_stepped, mu_sp__law_cell, n_sp__law_cell, kd_sp__law_cell, mu_sp__law_raw, 
    n_sp__law_raw, kd_sp__law_raw, mu_sp__law_whole, n_sp__law_whole, kd_sp__law_whole, mu_sp__law_number, n_sp__law_number, kd_sp__law_number, mu_sp__law_value, 
    n_sp__law_value, kd_sp__law_value, mu_sp__law_values, n_sp__law_values, kd_sp__law_values, mu_sp__law_names, n_sp__law_names, kd_sp__law_names, 
    mu_sp__law_things, n_sp__law_things, kd_sp__law_things, mu_sp__law_frame, n_sp__law_frame, kd_sp__law_frame, mu_sp__law_frames, n_sp__law_frames, 
    kd_sp__law_frames, mu_sp__law_row, n_sp__law_row, kd_sp__law_row, mu_sp__law_program, n_sp__law_program, kd_sp__law_program, mu_sp__law_state, n_sp__law_state, 
    kd_sp__law_state, mu_sp__law_topped, n_sp__law_topped, kd_sp__law_topped, mu_sp__law_same_things, n_sp__law_same_things, kd_sp__law_same_things, 
    mu_sp__law_same_state, n_sp__law_same_state, kd_sp__law_same_state, mu_sp__law_copy, n_sp__law_copy, kd_sp__law_copy, mu_sp__law_is_box, n_sp__law_is_box, 
    kd_sp__law_is_box, mu_sp__law_due, n_sp__law_due, kd_sp__law_due, mu_sp_law, n_sp_law, kd_sp_law, mu_sp__law_alike, n_sp__law_alike, kd_sp__law_alike])
theorem same_things_ok (xs ys : List (R.D × R.D)) (h : SameT xs ys) : sp__law_same_things.F [.dict xs, .dict ys] = some (.ok (.bool true, [])) := by
  have hk : ∃ ft : R.FT, ft.fn "_law_alike" = some (sp__law_alike 8) ∧ ft.fn "_law_whole" = some sp__law_whole ∧ sp__law_same_things.F [.dict xs, .dict ys] = endD ⟨2, [], ⟨false, false⟩, fun _ => none⟩ (evSl ft b__law_same_things [.sh false (.dict xs), .sh false (.dict ys), .no]) := ⟨_, rfl, rfl, un__law_same_things _ _⟩
  obtain ⟨ft, f1, f2, hk⟩ := hk
  rw [hk]
  apply Ends.eq
  unfold b__law_same_things
  (rw [evSl_cons]; simp! [h.len])
  rw [evSl_nil, seqO_nx, evSl_cons, evSt_for1]
  simp!
  refine loop_cps (fun j e => ∃ s, e = [.sh false (.dict xs), .sh false (.dict ys), s] ∧ mutOld (some s) = false) ⟨_, rfl, rfl⟩ ?_ ?_
  · rintro j e d hd ⟨s, rfl, hs⟩
    obtain ⟨x, hx, rfl⟩ := List.mem_map.mp (List.mem_of_getElem? hd)
    obtain ⟨n, e1, e2, e3, e4⟩ := h.all x hx
    rw [e1]
    refine ⟨[.sh false (.dict xs), .sh false (.dict ys), .sh true (.int n)], by simp! [hs], ?_⟩
    (rw [evSl_cons]; simp! [f2, whole_ok, e3])
    rw [evSl_nil, seqO_nx]
    (rw [evSl_cons]; simp! [f1, e2, e3, alike_ok 8 _ e4])
    rw [evSl_nil, seqO_nx]
    exact Nxt.nil ⟨_, rfl, rfl⟩
  · rintro e ⟨s, rfl, hs⟩
    (rw [evSl_cons]; simp!)
    exact Ends.mk rfl
theorem same_state_ok (e : R.D) (fs : List R.D) (xs ys : List (R.D × R.D)) (he : Alk 8 e) (hf : Alk 8 (.list fs)) (h : SameT xs ys) : sp__law_same_state.F [.tuple [e, .list fs, .dict xs], .tuple [e, .list fs, .dict ys]] = some (.ok (.bool true, [])) := by
  have hk : ∃ ft : R.FT, ft.fn "_law_alike" = some (sp__law_alike 8) ∧ ft.fn "_law_same_things" = some sp__law_same_things ∧ sp__law_same_state.F [.tuple [e, .list fs, .dict xs], .tuple [e, .list fs, .dict ys]] = endD ⟨2, [], ⟨false, false⟩, fun _ => none⟩ (evSl ft b__law_same_state [.sh false (.tuple [e, .list fs, .dict xs]), .sh false (.tuple [e, .list fs, .dict ys])]) := ⟨_, rfl, rfl, un__law_same_state _ _⟩
  obtain ⟨ft, f1, f2, hk⟩ := hk
  rw [hk]
  apply Ends.eq
  unfold b__law_same_state
  have a0 : ∀ x y z : R.D, L2.atI [x, y, z] 0 = some x := fun _ _ _ => rfl
  have a1 : ∀ x y z : R.D, L2.atI [x, y, z] 1 = some y := fun _ _ _ => rfl
  have a2 : ∀ x y z : R.D, L2.atI [x, y, z] 2 = some z := fun _ _ _ => rfl
  (rw [evSl_cons]; simp! [a1])
  rw [evSl_nil, seqO_nx]
  (rw [evSl_cons]; simp! [a0, a1, a2, f1, f2, alike_ok 8 _ he, alike_ok 8 _ hf, same_things_ok xs ys h])
  exact Ends.mk rfl
theorem copy_ok (e : R.D) (fs : List R.D) (xs : List (R.D × R.D)) : sp__law_copy.F [.tuple [e, .list fs, .dict xs]] = some (.ok (.tuple [e, .list fs, .dict xs], [])) := by
  have hk : ∃ ft : R.FT, sp__law_copy.F [.tuple [e, .list fs, .dict xs]] = endD ⟨1, [], ⟨false, false⟩, fun _ => none⟩ (evSl ft b__law_copy [.sh false (.tuple [e, .list fs, .dict xs])]) := ⟨_, un__law_copy _⟩
  obtain ⟨ft, hk⟩ := hk
  rw [hk]
  apply Ends.eq
  unfold b__law_copy
  have a0 : ∀ x y z : R.D, L2.atI [x, y, z] 0 = some x := fun _ _ _ => rfl
  have a1 : ∀ x y z : R.D, L2.atI [x, y, z] 1 = some y := fun _ _ _ => rfl
  have a2 : ∀ x y z : R.D, L2.atI [x, y, z] 2 = some z := fun _ _ _ => rfl
  (rw [evSl_cons]; simp! [a0, a1, a2])
  exact Ends.mk rfl
/-- an end, by the names of the things -/
def EnD (ns : List Int) (e : R.D) : Prop := e = .none ∨ (∃ v, VD ns v ∧ e = .tuple [.str "done", v]) ∨ ∃ w : Str, w ∈ (["end", "empty", "own", "kind", "great", "deep", "full"] : List Str) ∧ e = .tuple [.str "stuck", .str w]
def stuck7 : List Str := ["end", "empty", "own", "kind", "great", "deep", "full"]
theorem keys_ints {ns : List Int} {nb : Int} {es : List (R.D × R.D)} (T : TsD ns nb es) : ∃ ks : List Int, es.map (·.1) = ks.map .int ∧ ks.length ≤ 1000 ∧ ∀ k, k ∈ ks → k ∈ ns := by
  have : ∀ l : List (R.D × R.D), (∀ e, e ∈ l → ∃ n, n ∈ ns ∧ e.1 = .int n) → ∃ ks : List Int, l.map (·.1) = ks.map .int ∧ ks.length = l.length ∧ ∀ k, k ∈ ks → k ∈ ns := by
    intro l
    induction l with
    | nil => exact fun _ => ⟨[], rfl, rfl, by simp⟩
    | cons e l ih =>
      intro h
      obtain ⟨n, h1, h2⟩ := h e List.mem_cons_self
      obtain ⟨ks, q1, q2, q3⟩ := ih fun x hx => h x (List.mem_cons_of_mem _ hx)
      refine ⟨n :: ks, by rw [List.map_cons, List.map_cons, h2, q1], by simp [q2], fun k hk => ?_⟩
      rcases List.mem_cons.mp hk with z | z
      · rw [z]; exact h1
      · exact q3 k z
  obtain ⟨ks, q1, q2, q3⟩ := this es T.key
  exact ⟨ks, q1, by have := T.len; omega, q3⟩
theorem VD.mono {ns ms : List Int} {d : R.D} (h : VD ns d) (e : ∀ n, n ∈ ns → n ∈ ms) : VD ms d := by
  rcases h with ⟨z, h⟩ | ⟨n, h1, h2⟩
  · exact .inl ⟨z, h⟩
  · exact .inr ⟨n, e n h1, h2⟩
end K03RWA
namespace K03RWA
open PySem PySem.Spec PyProof.Rows L2 R
def FrW (ns : List Int) (f : R.D) : Prop := ∃ (b p : Nat) (own st : List R.D), f = .tuple [.int b, .int p, .tuple own, .tuple st] ∧ VsD ns 60 own ∧ VsD ns 60 st
def ThW (ns : List Int) (d : R.D) : Prop := (∃ v, VD ns v ∧ d = .tuple [.str "box", v]) ∨ ∃ (b : Nat) (ks : List R.D), ks.length ≤ 8 ∧ (∀ v, v ∈ ks → VD ns v) ∧ d = .tuple [.str "fun", .int b, .tuple ks]
structure TsW (ns : List Int) (es : List (R.D × R.D)) : Prop where
  key : ∀ e, e ∈ es → ∃ n, e.1 = .int n
  val : ∀ e, e ∈ es → ThW ns e.2
  nd : (es.map (·.1)).Nodup
  len : es.length ≤ 1000
theorem FrD.w {ns : List Int} {bs : List (List R.D)} {f : R.D} (h : FrD ns bs f) : FrW ns f := by
  obtain ⟨b, p, own, st, rows, h1, _, _, h4, h5⟩ := h
  exact ⟨b, p, own, st, h1, h4, h5⟩
theorem ThD.w {ns : List Int} {nb : Int} {d : R.D} (h : ThD ns nb d) : ThW ns d := by
  rcases h with h | ⟨b, ks, h1, h2, h3, h4, h5⟩
  · exact .inl h
  · obtain ⟨n, rfl⟩ := nat_of h1
    exact .inr ⟨n, ks, h3, h4, h5⟩
theorem TsD.w {ns : List Int} {nb : Int} {es : List (R.D × R.D)} (T : TsD ns nb es) : TsW ns es :=
  ⟨fun e h => let ⟨n, _, q⟩ := T.key e h; ⟨n, q⟩, fun e h => (T.val e h).w, T.nd, T.len⟩
local macro_rules | `(tactic| simp! [$ls,*]) => `(tactic| simp only [lit_inj, shaped_lit, small_lit, len_lit, String.reduceEq, Nat.reduceLeDiff, upK_t, upK_f, noMutI_l, noMutI_d, evE_call, evE_v, evE_k, evE_dnew, evE_tup, evE_lst, 
    evE_bin, evE_cmp, evE_ch, evE_and, evE_or, andK_ok, orK_ok, evE_not, evE_ife, evE_bf, evE_isi, evE_ix, evE_sl, evE_vals, evE_me, evL_nil, evL_cons, evBL_nil, 
    evBL_cons, evO_no, evO_k, evT_def, evB_def, evSt_set, evSt_ife, evSt_ret, evSt_frz, evSt_app, evSt_sti, evSt_unp, retE_v, retE_k, retE_tup, retE_lst, retE_bin, 
    retE_cmp, retE_ch, retE_and, retE_or, retE_not, retE_ife, retE_call, retE_bf, retE_isi, retE_ix, retE_sl, retE_lc, brw_v, brw_k, brw_g, brw_neg, brw_tup, 
    brw_lst, brw_bin, brw_cmp, brw_ch, brw_and, brw_or, brw_not, brw_ife, brw_call, brw_bf, brw_isi, brw_ix, brw_sl, brw_lc, brw_vals, brw_ge, brw_dnew, brw_me, 
    bd_ok, bd_ok', exO_ok, exO_ok', lift_some, slotV_sh, slotB_sh, slotB_ow, toB_ok, toB_ok', ok_def, sc, callR_ok, bin_add, bin_sub, bin_mul, bin_div, bin_mod, 
    bf_len_l, bf_len_t, bf_len_d, bf_list_l, bf_list_t, bf_list_d, bf_tuple_l, bf_dict_d, bf_max, bf_int_b, cmp_gt, cmp_lt, cmp_le, cmp_ge, cmp_eqi, cmp_eqs, 
    cmp_nes, cmp_is, ix_l, ix_t, trE_ok, truthE, mul_l, mul_r, putS, mutOld_no, mutOld_sh, mutOld_ow, slotOf_t, slotOf_f, frzE, stiE, appE, keyOf_int0, isSc_int, 
    isSc_str, isSc_none, isSc_bool, noMut_int, noMut_str, noMut_none, noMut_bool, noMut_list, noMut_dict, List.getElem?_cons_succ, List.getElem?_cons_zero, 
    List.set_cons_succ, List.set_cons_zero, List.length_cons, List.length_nil, List.length_map, Nat.reduceAdd, Nat.reduceLT, Int.reduceLT, Int.reduceMul, 
    Int.reduceAdd, Int.reduceSub, Int.reduceNeg, Int.reduceLE, Int.reduceToNat, Nat.reducePow, Int.reducePow, Option.bind_some, bin_pow, bin_add_t, bin_add_l, 
    bin_add_s, sl_t, sl_l, isOwL_t, atI2, atI2i, isOw_t, and_self, true_and, and_true, if_true, if_false, Bool.false_eq_true, decide_true, decide_false, 
    decide_eq_true_eq, Option.map_some, Bool.or_true, Bool.true_and, Bool.and_true, Bool.false_or, Bool.or_false, Bool.false_and, Bool.and_false, Bool.true_or, 
    Bool.or_self, Bool.and_self, seqO_nx, seqO_rt, seqO_er, evSv_r, evSv_l, items_l, items_t, evS_l, evS_r, callK_ok, callK_b0, callK_b1, callK_b2, callK_b3, 
    callK_b4, eq_self, Int.toNat_natCast, isi_none_tuple_list, isi_none_tuple, isi_none_list, isi_none_str, isi_none_int, isi_none_bool, isi_none_dict, 
    isi_bool_tuple_list, isi_bool_tuple, isi_bool_list, isi_bool_str, isi_bool_int, isi_bool_bool, isi_bool_dict, isi_int_tuple_list, isi_int_tuple, isi_int_list, 
    isi_int_str, isi_int_int, isi_int_bool, isi_int_dict, isi_str_tuple_list, isi_str_tuple, isi_str_list, isi_str_str, isi_str_int, isi_str_bool, isi_str_dict, 
    isi_list_tuple_list, isi_list_tuple, isi_list_list, isi_list_str, isi_list_int, isi_list_bool, isi_list_dict, isi_tuple_tuple_list, isi_tuple_tuple, 
    isi_tuple_list, isi_tuple_str, isi_tuple_int, isi_tuple_bool, isi_tuple_dict, isi_dict_tuple_list, isi_dict_tuple, isi_dict_list, isi_dict_str, isi_dict_int, 
    isi_dict_bool, isi_dict_dict, cmp_nei, cmp_neb, cmp_eqb, cmp_isb, cmp_isnb, cmp_in_d, cmp_nin_d, ix_d, bf_all_l, Int.cast_ofNat_Int, Int.ofNat_zero, 
    Int.ofNat_one, Int.reduceEq, Int.reduceNe, Nat.reduceEqDiff, not_true_eq_false, not_false_eq_true, Bool.not_true, Bool.not_false, Bool.not_not, 
    Option.isSome_some, Option.isSome_none, Bool.not_eq_true, Bool.and_eq_true, Bool.or_eq_true, Bool.not_eq_false, putAll_nil, putAll_cons, hideE, evC_so, cmp_nn, 
    cmp_en, bf_sorted, evSt_tl, evTl_set, evTl_tst, evTl_wrk, loE_cons, loE_nil, loS_no, loS_sh, loS_ow, oldFree_nil, oldFree_no, oldFree_sh, oldFree_ow, ne_eq, 
    evE_neg, bf_min, evE_g, at_last, cut_init, evO_so, cmp_isnot, evSt_mat, evCs_nil, putB_nil, bf_max_l, mu_sp_is_number, n_sp_is_number, kd_sp_is_number, 
    mu_sp_thing_of, n_sp_thing_of, kd_sp_thing_of, mu_sp_is_box, n_sp_is_box, kd_sp_is_box, mu_sp_is_function, n_sp_is_function, kd_sp_is_function, mu_sp_new_number, 
    n_sp_new_number, kd_sp_new_number, mu_sp_spoken, n_sp_spoken, kd_sp_spoken, mu_sp_reckoned, n_sp_reckoned, kd_sp_reckoned, mu_sp_lacks_own, n_sp_lacks_own, 
    kd_sp_lacks_own, mu_sp_is_wrong_kind, n_sp_is_wrong_kind, kd_sp_is_wrong_kind, mu_sp_is_too_great, n_sp_is_too_great, kd_sp_is_too_great, mu_sp_is_full, 
    n_sp_is_full, kd_sp_is_full, mu_sp_stuck_word, n_sp_stuck_word, kd_sp_stuck_word, mu_sp_push, n_sp_push, kd_sp_push, mu_sp_keep, n_sp_keep, kd_sp_keep, 
    mu_sp_push_new, n_sp_push_new, kd_sp_push_new, mu_sp_go, n_sp_go, kd_sp_go, mu_sp_own_values, n_sp_own_values, kd_sp_own_values, mu_sp_do_instruction, 
    n_sp_do_instruction, kd_sp_do_instruction, mu_sp_stepped, n_sp_stepped, kd_sp_stepped, mu_sp__law_cell, n_sp__law_cell, kd_sp__law_cell, mu_sp__law_raw, 
    n_sp__law_raw, kd_sp__law_raw, mu_sp__law_whole, n_sp__law_whole, kd_sp__law_whole, mu_sp__law_number, n_sp__law_number, kd_sp__law_number, mu_sp__law_value, 
    n_sp__law_value, kd_sp__law_value, mu_sp__law_values, n_sp__law_values, kd_sp__law_values, mu_sp__law_names, n_sp__law_names, kd_sp__law_names, 
    mu_sp__law_things, n_sp__law_things, kd_sp__law_things, mu_sp__law_frame, n_sp__law_frame, kd_sp__law_frame, mu_sp__law_frames, n_sp__law_frames, 
    kd_sp__law_frames, mu_sp__law_row, n_sp__law_row, kd_sp__law_row, mu_sp__law_program, n_sp__law_program, kd_sp__law_program, mu_sp__law_state, n_sp__law_state, 
    kd_sp__law_state, mu_sp__law_topped, n_sp__law_topped, kd_sp__law_topped, mu_sp__law_same_things, n_sp__law_same_things, kd_sp__law_same_things, 
    mu_sp__law_same_state, n_sp__law_same_state, kd_sp__law_same_state, mu_sp__law_copy, n_sp__law_copy, kd_sp__law_copy, mu_sp__law_is_box, n_sp__law_is_box, 
    kd_sp__law_is_box, mu_sp__law_due, n_sp__law_due, kd_sp__law_due, mu_sp_law, n_sp_law, kd_sp_law, mu_sp__law_alike, n_sp__law_alike, kd_sp__law_alike, $ls,*])
local macro_rules | `(tactic| simp!) => `(tactic| simp only [lit_inj, shaped_lit, small_lit, len_lit, String.reduceEq, Nat.reduceLeDiff, upK_t, upK_f, noMutI_l, noMutI_d, evE_call, evE_v, evE_k, evE_dnew, evE_tup, evE_lst, 
    evE_bin, evE_cmp, evE_ch, evE_and, evE_or, andK_ok, orK_ok, evE_not, evE_ife, evE_bf, evE_isi, evE_ix, evE_sl, evE_vals, evE_me, evL_nil, evL_cons, evBL_nil, 
    evBL_cons, evO_no, evO_k, evT_def, evB_def, evSt_set, evSt_ife, evSt_ret, evSt_frz, evSt_app, evSt_sti, evSt_unp, retE_v, retE_k, retE_tup, retE_lst, retE_bin, 
    retE_cmp, retE_ch, retE_and, retE_or, retE_not, retE_ife, retE_call, retE_bf, retE_isi, retE_ix, retE_sl, retE_lc, brw_v, brw_k, brw_g, brw_neg, brw_tup, 
    brw_lst, brw_bin, brw_cmp, brw_ch, brw_and, brw_or, brw_not, brw_ife, brw_call, brw_bf, brw_isi, brw_ix, brw_sl, brw_lc, brw_vals, brw_ge, brw_dnew, brw_me, 
    bd_ok, bd_ok', exO_ok, exO_ok', lift_some, slotV_sh, slotB_sh, slotB_ow, toB_ok, toB_ok', ok_def, sc, callR_ok, bin_add, bin_sub, bin_mul, bin_div, bin_mod, 
    bf_len_l, bf_len_t, bf_len_d, bf_list_l, bf_list_t, bf_list_d, bf_tuple_l, bf_dict_d, bf_max, bf_int_b, cmp_gt, cmp_lt, cmp_le, cmp_ge, cmp_eqi, cmp_eqs, 
    cmp_nes, cmp_is, ix_l, ix_t, trE_ok, truthE, mul_l, mul_r, putS, mutOld_no, mutOld_sh, mutOld_ow, slotOf_t, slotOf_f, frzE, stiE, appE, keyOf_int0, isSc_int, 
    isSc_str, isSc_none, isSc_bool, noMut_int, noMut_str, noMut_none, noMut_bool, noMut_list, noMut_dict, List.getElem?_cons_succ, List.getElem?_cons_zero, 
    List.set_cons_succ, List.set_cons_zero, List.length_cons, List.length_nil, List.length_map, Nat.reduceAdd, Nat.reduceLT, Int.reduceLT, Int.reduceMul, 
    Int.reduceAdd, Int.reduceSub, Int.reduceNeg, Int.reduceLE, Int.reduceToNat, Nat.reducePow, Int.reducePow, Option.bind_some, bin_pow, bin_add_t, bin_add_l, 
    bin_add_s, sl_t, sl_l, isOwL_t, atI2, atI2i, isOw_t, and_self, true_and, and_true, if_true, if_false, Bool.false_eq_true, decide_true, decide_false, 
    decide_eq_true_eq, Option.map_some, Bool.or_true, Bool.true_and, Bool.and_true, Bool.false_or, Bool.or_false, Bool.false_and, Bool.and_false, Bool.true_or, 
    Bool.or_self, Bool.and_self, seqO_nx, seqO_rt, seqO_er, evSv_r, evSv_l, items_l, items_t, evS_l, evS_r, callK_ok, callK_b0, callK_b1, callK_b2, callK_b3, 
    callK_b4, eq_self, Int.toNat_natCast, isi_none_tuple_list, isi_none_tuple, isi_none_list, isi_none_str, isi_none_int, isi_none_bool, isi_none_dict, 
    isi_bool_tuple_list, isi_bool_tuple, isi_bool_list, isi_bool_str, isi_bool_int, isi_bool_bool, isi_bool_dict, isi_int_tuple_list, isi_int_tuple, isi_int_list, 
    isi_int_str, isi_int_int, isi_int_bool, isi_int_dict, isi_str_tuple_list, isi_str_tuple, isi_str_list, isi_str_str, isi_str_int, isi_str_bool, isi_str_dict, 
    isi_list_tuple_list, isi_list_tuple, isi_list_list, isi_list_str, isi_list_int, isi_list_bool, isi_list_dict, isi_tuple_tuple_list, isi_tuple_tuple, 
    isi_tuple_list, isi_tuple_str, isi_tuple_int, isi_tuple_bool, isi_tuple_dict, isi_dict_tuple_list, isi_dict_tuple, isi_dict_list, isi_dict_str, isi_dict_int, 
    isi_dict_bool, isi_dict_dict, cmp_nei, cmp_neb, cmp_eqb, cmp_isb, cmp_isnb, cmp_in_d, cmp_nin_d, ix_d, bf_all_l, Int.cast_ofNat_Int, Int.ofNat_zero, 
    Int.ofNat_one, Int.reduceEq, Int.reduceNe, Nat.reduceEqDiff, not_true_eq_false, not_false_eq_true, Bool.not_true, Bool.not_false, Bool.not_not, 
    Option.isSome_some, Option.isSome_none, Bool.not_eq_true, Bool.and_eq_true, Bool.or_eq_true, Bool.not_eq_false, putAll_nil, putAll_cons, hideE, evC_so, cmp_nn, 
    cmp_en, bf_sorted, evSt_tl, evTl_set, evTl_tst, evTl_wrk, loE_cons, loE_nil, loS_no, loS_sh, loS_ow, oldFree_nil, oldFree_no, oldFree_sh, oldFree_ow, ne_eq, 
    evE_neg, bf_min, evE_g, at_last, cut_init, evO_so, cmp_isnot, evSt_mat, evCs_nil, putB_nil, bf_max_l, mu_sp_is_number, n_sp_is_number, kd_sp_is_number, 
    mu_sp_thing_of, n_sp_thing_of, kd_sp_thing_of, mu_sp_is_box, n_sp_is_box, kd_sp_is_box, mu_sp_is_function, n_sp_is_function, kd_sp_is_function, mu_sp_new_number, 
    n_sp_new_number, kd_sp_new_number, mu_sp_spoken, n_sp_spoken, kd_sp_spoken, mu_sp_reckoned, n_sp_reckoned, kd_sp_reckoned, mu_sp_lacks_own, n_sp_lacks_own, 
    kd_sp_lacks_own, mu_sp_is_wrong_kind, n_sp_is_wrong_kind, kd_sp_is_wrong_kind, mu_sp_is_too_great, n_sp_is_too_great, kd_sp_is_too_great, mu_sp_is_full, 
    n_sp_is_full, kd_sp_is_full, mu_sp_stuck_word, n_sp_stuck_word, kd_sp_stuck_word, mu_sp_push, n_sp_push, kd_sp_push, mu_sp_keep, n_sp_keep, kd_sp_keep, 
    mu_sp_push_new, n_sp_push_new, kd_sp_push_new, mu_sp_go, n_sp_go, kd_sp_go, mu_sp_own_values, n_sp_own_values, kd_sp_own_values, mu_sp_do_instruction, 
    n_sp_do_instruction, kd_sp_do_instruction, mu_sp_stepped, n_sp_stepped, kd_sp_stepped, mu_sp__law_cell, n_sp__law_cell, kd_sp__law_cell, mu_sp__law_raw, 
    n_sp__law_raw, kd_sp__law_raw, mu_sp__law_whole, n_sp__law_whole, kd_sp__law_whole, mu_sp__law_number, n_sp__law_number, kd_sp__law_number, mu_sp__law_value, 
    n_sp__law_value, kd_sp__law_value, mu_sp__law_values, n_sp__law_values, kd_sp__law_values, mu_sp__law_names, n_sp__law_names, kd_sp__law_names, 
    mu_sp__law_things, n_sp__law_things, kd_sp__law_things, mu_sp__law_frame, n_sp__law_frame, kd_sp__law_frame, mu_sp__law_frames, n_sp__law_frames, 
    kd_sp__law_frames, mu_sp__law_row, n_sp__law_row, kd_sp__law_row, mu_sp__law_program, n_sp__law_program, kd_sp__law_program, mu_sp__law_state, n_sp__law_state, 
    kd_sp__law_state, mu_sp__law_topped, n_sp__law_topped, kd_sp__law_topped, mu_sp__law_same_things, n_sp__law_same_things, kd_sp__law_same_things, 
    mu_sp__law_same_state, n_sp__law_same_state, kd_sp__law_same_state, mu_sp__law_copy, n_sp__law_copy, kd_sp__law_copy, mu_sp__law_is_box, n_sp__law_is_box, 
    kd_sp__law_is_box, mu_sp__law_due, n_sp__law_due, kd_sp__law_due, mu_sp_law, n_sp_law, kd_sp_law, mu_sp__law_alike, n_sp__law_alike, kd_sp__law_alike])
theorem VD.alk {ns : List Int} {d : R.D} (h : VD ns d) : Alk 2 d := by
  rcases h with ⟨z, rfl, _⟩ | ⟨n, _, rfl⟩
  · exact trivial
  · refine ⟨by simp, fun x hx => ?_⟩
    simp only [List.mem_cons, List.mem_nil_iff, or_false] at hx
    rcases hx with rfl | rfl
    · show shapedB (.str "at") = true
      simp!
    · exact trivial
theorem VsD.alk {ns : List Int} {n : Nat} {ds : List R.D} (h : VsD ns n ds) (hn : n ≤ 1000) : Alk 3 (.tuple ds) := ⟨by have := h.1; omega, fun x hx => (h.2 x hx).alk⟩
theorem FrW.alk {ns : List Int} {f : R.D} (h : FrW ns f) : Alk 4 f := by
  obtain ⟨b, p, own, st, rfl, h1, h2⟩ := h
  refine ⟨by simp, fun x hx => ?_⟩
  simp only [List.mem_cons, List.mem_nil_iff, or_false] at hx
  rcases hx with rfl | rfl | rfl | rfl
  · exact trivial
  · exact trivial
  · exact h1.alk (by decide)
  · exact h2.alk (by decide)
theorem ThW.alk {ns : List Int} {d : R.D} (h : ThW ns d) : Alk 4 d := by
  rcases h with ⟨v, hv, rfl⟩ | ⟨b, ks, h1, h2, rfl⟩
  · refine ⟨by simp, fun x hx => ?_⟩
    simp only [List.mem_cons, List.mem_nil_iff, or_false] at hx
    rcases hx with rfl | rfl
    · show shapedB (.str "box") = true
      simp!
    · exact hv.alk.up
  · refine ⟨by simp, fun x hx => ?_⟩
    simp only [List.mem_cons, List.mem_nil_iff, or_false] at hx
    rcases hx with rfl | rfl | rfl
    · show shapedB (.str "fun") = true
      simp!
    · exact trivial
    · exact ⟨by omega, fun x hx => (h2 x hx).alk⟩
theorem EnD.alk {ns : List Int} {e : R.D} (h : EnD ns e) : Alk 3 e := by
  rcases h with rfl | ⟨v, hv, rfl⟩ | ⟨w, hw, rfl⟩
  · exact trivial
  · refine ⟨by simp, fun x hx => ?_⟩
    simp only [List.mem_cons, List.mem_nil_iff, or_false] at hx
    rcases hx with rfl | rfl
    · show shapedB (.str "done") = true
      simp!
    · exact hv.alk
  · refine ⟨by simp, fun x hx => ?_⟩
    simp only [List.mem_cons, List.mem_nil_iff, or_false] at hx
    rcases hx with rfl | rfl
    · show shapedB (.str "stuck") = true
      simp!
    · show shapedB (.str w) = true
      exact (show ∀ w : Str, w ∈ stuck7 → shapedB (.str w) = true by decide +kernel) w hw
theorem canAll_of {xs : List R.D} (h : ∀ x, x ∈ xs → PyData.canLay0 x = true) : PyData.canLayAll0 xs = true := by
  induction xs with
  | nil => rfl
  | cons x xs ih =>
    show (PyData.canLay0 x && PyData.canLayAll0 xs) = true
    rw [h x List.mem_cons_self, ih fun y hy => h y (List.mem_cons_of_mem _ hy)]; rfl
theorem depthAll_of {n : Nat} {xs : List R.D} (h : ∀ x, x ∈ xs → PyData.depth x ≤ n) : PyData.depthAll xs ≤ n := by
  induction xs with
  | nil => exact Nat.zero_le _
  | cons x xs ih =>
    show max (PyData.depth x) (PyData.depthAll xs) ≤ n
    exact Nat.max_le.mpr ⟨h x List.mem_cons_self, ih fun y hy => h y (List.mem_cons_of_mem _ hy)⟩
theorem Alk.lay : ∀ {n : Nat} {d : R.D}, Alk n d → PyData.canLay0 d = true ∧ PyData.depth d ≤ n
  | 0, _, h => h.elim
  | n + 1, .tuple xs, h => by
    refine ⟨canAll_of fun x hx => (h.2 x hx).lay.1, ?_⟩
    show PyData.depthAll xs + 1 ≤ n + 1
    have := depthAll_of fun x hx => (h.2 x hx).lay.2
    omega
  | n + 1, .list xs, h => by
    refine ⟨canAll_of fun x hx => (h.2 x hx).lay.1, ?_⟩
    show PyData.depthAll xs + 1 ≤ n + 1
    have := depthAll_of fun x hx => (h.2 x hx).lay.2
    omega
  | n + 1, .str x, h => by
    have h2 : (PyData.canLay0 (.str x) && decide (PyData.depth (.str x) ≤ 64)) = true := h
    rw [Bool.and_eq_true] at h2
    exact ⟨h2.1, Nat.zero_le _⟩
  | n + 1, .none, h => ⟨rfl, Nat.zero_le _⟩
  | n + 1, .int _, h => ⟨rfl, Nat.zero_le _⟩
  | n + 1, .bool _, h => h.elim
  | n + 1, .dict _, h => h.elim
theorem Alk.shaped {n : Nat} {d : R.D} (h : Alk n d) (hn : n ≤ 64) : shapedB d = true := by
  show (PyData.canLay0 d && decide (PyData.depth d ≤ 64)) = true
  rw [h.lay.1, decide_eq_true (show PyData.depth d ≤ 64 from Nat.le_trans h.lay.2 hn)]; rfl
theorem frs_alk {ns : List Int} {fs : List R.D} (h : ∀ f, f ∈ fs → FrW ns f) (hl : fs.length ≤ 1000) : Alk 5 (.list fs) := ⟨hl, fun x hx => (h x hx).alk⟩
theorem noMut_st {e : R.D} {fs : List R.D} {es : List (R.D × R.D)} : noMut (.tuple [e, .list fs, .dict es]) = false := by
  show (noMut e && (noMut (.list fs) && (noMut (.dict es) && true))) = false
  cases noMut e <;> rfl
theorem TsW.same {ns : List Int} {es : List (R.D × R.D)} (T : TsW ns es) : SameT es es := ⟨rfl, fun e he => by
  obtain ⟨n, hn⟩ := T.key e he
  have := dget_iff (k := .inl n) T.nd (d := e.2) (by rw [show keyD (.inl n) = e.1 from hn.symm]; exact he)
  exact ⟨n, hn, this, this, (T.val e he).alk.le (by decide)⟩⟩
end K03RWA
namespace K03RWA
open PySem PySem.Spec PyProof.Rows L2 R
/-- the top frame stands at a drawn instruction -/
structure TopD (ws : List Str) (ns : List Int) (bs : List (List R.D)) (b pl : Nat) (own st body : List R.D) (row : R.D) : Prop where
  hb : bs[b]? = some body
  hp : body[pl]? = some row
  ins : InsD ws bs.length body.length row
  vo : VsD ns 60 own
  vs : VsD ns 60 st
local macro_rules | `(tactic| simp! [$ls,*]) => `(tactic| simp only [lit_inj, shaped_lit, small_lit, len_lit, String.reduceEq, Nat.reduceLeDiff, upK_t, upK_f, noMutI_l, noMutI_d, evE_call, evE_v, evE_k, evE_dnew, evE_tup, evE_lst, 
    evE_bin, evE_cmp, evE_ch, evE_and, evE_or, andK_ok, orK_ok, evE_not, evE_ife, evE_bf, evE_isi, evE_ix, evE_sl, evE_vals, evE_me, evL_nil, evL_cons, evBL_nil, 
    evBL_cons, evO_no, evO_k, evT_def, evB_def, evSt_set, evSt_ife, evSt_ret, evSt_frz, evSt_app, evSt_sti, evSt_unp, retE_v, retE_k, retE_tup, retE_lst, retE_bin, 
    retE_cmp, retE_ch, retE_and, retE_or, retE_not, retE_ife, retE_call, retE_bf, retE_isi, retE_ix, retE_sl, retE_lc, brw_v, brw_k, brw_g, brw_neg, brw_tup, 
    brw_lst, brw_bin, brw_cmp, brw_ch, brw_and, brw_or, brw_not, brw_ife, brw_call, brw_bf, brw_isi, brw_ix, brw_sl, brw_lc, brw_vals, brw_ge, brw_dnew, brw_me, 
    bd_ok, bd_ok', exO_ok, exO_ok', lift_some, slotV_sh, slotB_sh, slotB_ow, toB_ok, toB_ok', ok_def, sc, callR_ok, bin_add, bin_sub, bin_mul, bin_div, bin_mod, 
    bf_len_l, bf_len_t, bf_len_d, bf_list_l, bf_list_t, bf_list_d, bf_tuple_l, bf_dict_d, bf_max, bf_int_b, cmp_gt, cmp_lt, cmp_le, cmp_ge, cmp_eqi, cmp_eqs, 
    cmp_nes, cmp_is, ix_l, ix_t, trE_ok, truthE, mul_l, mul_r, putS, mutOld_no, mutOld_sh, mutOld_ow, slotOf_t, slotOf_f, frzE, stiE, appE, keyOf_int0, isSc_int, 
    isSc_str, isSc_none, isSc_bool, noMut_int, noMut_str, noMut_none, noMut_bool, noMut_list, noMut_dict, List.getElem?_cons_succ, List.getElem?_cons_zero, 
    List.set_cons_succ, List.set_cons_zero, List.length_cons, List.length_nil, List.length_map, Nat.reduceAdd, Nat.reduceLT, Int.reduceLT, Int.reduceMul, 
    Int.reduceAdd, Int.reduceSub, Int.reduceNeg, Int.reduceLE, Int.reduceToNat, Nat.reducePow, Int.reducePow, Option.bind_some, bin_pow, bin_add_t, bin_add_l, 
    bin_add_s, sl_t, sl_l, isOwL_t, atI2, atI2i, isOw_t, and_self, true_and, and_true, if_true, if_false, Bool.false_eq_true, decide_true, decide_false, 
    decide_eq_true_eq, Option.map_some, Bool.or_true, Bool.true_and, Bool.and_true, Bool.false_or, Bool.or_false, Bool.false_and, Bool.and_false, Bool.true_or, 
    Bool.or_self, Bool.and_self, seqO_nx, seqO_rt, seqO_er, evSv_r, evSv_l, items_l, items_t, evS_l, evS_r, callK_ok, callK_b0, callK_b1, callK_b2, callK_b3, 
    callK_b4, eq_self, Int.toNat_natCast, isi_none_tuple_list, isi_none_tuple, isi_none_list, isi_none_str, isi_none_int, isi_none_bool, isi_none_dict, 
    isi_bool_tuple_list, isi_bool_tuple, isi_bool_list, isi_bool_str, isi_bool_int, isi_bool_bool, isi_bool_dict, isi_int_tuple_list, isi_int_tuple, isi_int_list, 
    isi_int_str, isi_int_int, isi_int_bool, isi_int_dict, isi_str_tuple_list, isi_str_tuple, isi_str_list, isi_str_str, isi_str_int, isi_str_bool, isi_str_dict, 
    isi_list_tuple_list, isi_list_tuple, isi_list_list, isi_list_str, isi_list_int, isi_list_bool, isi_list_dict, isi_tuple_tuple_list, isi_tuple_tuple, 
    isi_tuple_list, isi_tuple_str, isi_tuple_int, isi_tuple_bool, isi_tuple_dict, isi_dict_tuple_list, isi_dict_tuple, isi_dict_list, isi_dict_str, isi_dict_int, 
    isi_dict_bool, isi_dict_dict, cmp_nei, cmp_neb, cmp_eqb, cmp_isb, cmp_isnb, cmp_in_d, cmp_nin_d, ix_d, bf_all_l, Int.cast_ofNat_Int, Int.ofNat_zero, 
    Int.ofNat_one, Int.reduceEq, Int.reduceNe, Nat.reduceEqDiff, not_true_eq_false, not_false_eq_true, Bool.not_true, Bool.not_false, Bool.not_not, 
    Option.isSome_some, Option.isSome_none, Bool.not_eq_true, Bool.and_eq_true, Bool.or_eq_true, Bool.not_eq_false, putAll_nil, putAll_cons, hideE, evC_so, cmp_nn, 
    cmp_en, bf_sorted, evSt_tl, evTl_set, evTl_tst, evTl_wrk, loE_cons, loE_nil, loS_no, loS_sh, loS_ow, oldFree_nil, oldFree_no, oldFree_sh, oldFree_ow, ne_eq, 
    evE_neg, bf_min, evE_g, at_last, cut_init, evO_so, cmp_isnot, evSt_mat, evCs_nil, putB_nil, bf_max_l, mu_sp_is_number, n_sp_is_number, kd_sp_is_number, 
    mu_sp_thing_of, n_sp_thing_of, kd_sp_thing_of, mu_sp_is_box, n_sp_is_box, kd_sp_is_box, mu_sp_is_function, n_sp_is_function, kd_sp_is_function, mu_sp_new_number, 
    n_sp_new_number, kd_sp_new_number, mu_sp_spoken, n_sp_spoken, kd_sp_spoken, mu_sp_reckoned, n_sp_reckoned, kd_sp_reckoned, mu_sp_lacks_own, n_sp_lacks_own, 
    kd_sp_lacks_own, mu_sp_is_wrong_kind, n_sp_is_wrong_kind, kd_sp_is_wrong_kind, mu_sp_is_too_great, n_sp_is_too_great, kd_sp_is_too_great, mu_sp_is_full, 
    n_sp_is_full, kd_sp_is_full, mu_sp_stuck_word, n_sp_stuck_word, kd_sp_stuck_word, mu_sp_push, n_sp_push, kd_sp_push, mu_sp_keep, n_sp_keep, kd_sp_keep, 
    mu_sp_push_new, n_sp_push_new, kd_sp_push_new, mu_sp_go, n_sp_go, kd_sp_go, mu_sp_own_values, n_sp_own_values, kd_sp_own_values, mu_sp_do_instruction, 
    n_sp_do_instruction, kd_sp_do_instruction, mu_sp_stepped, n_sp_stepped, kd_sp_stepped, mu_sp__law_cell, n_sp__law_cell, kd_sp__law_cell, mu_sp__law_raw, 
    n_sp__law_raw, kd_sp__law_raw, mu_sp__law_whole, n_sp__law_whole, kd_sp__law_whole, mu_sp__law_number, n_sp__law_number, kd_sp__law_number, mu_sp__law_value, 
    n_sp__law_value, kd_sp__law_value, mu_sp__law_values, n_sp__law_values, kd_sp__law_values, mu_sp__law_names, n_sp__law_names, kd_sp__law_names, 
    mu_sp__law_things, n_sp__law_things, kd_sp__law_things, mu_sp__law_frame, n_sp__law_frame, kd_sp__law_frame, mu_sp__law_frames, n_sp__law_frames, 
    kd_sp__law_frames, mu_sp__law_row, n_sp__law_row, kd_sp__law_row, mu_sp__law_program, n_sp__law_program, kd_sp__law_program, mu_sp__law_state, n_sp__law_state, 
    kd_sp__law_state, mu_sp__law_topped, n_sp__law_topped, kd_sp__law_topped, mu_sp__law_same_things, n_sp__law_same_things, kd_sp__law_same_things, 
    mu_sp__law_same_state, n_sp__law_same_state, kd_sp__law_same_state, mu_sp__law_copy, n_sp__law_copy, kd_sp__law_copy, mu_sp__law_is_box, n_sp__law_is_box, 
    kd_sp__law_is_box, mu_sp__law_due, n_sp__law_due, kd_sp__law_due, mu_sp_law, n_sp_law, kd_sp_law, mu_sp__law_alike, n_sp__law_alike, kd_sp__law_alike, noMut_st, $ls,*])
local macro_rules | `(tactic| simp!) => `(tactic| simp only [lit_inj, shaped_lit, small_lit, len_lit, String.reduceEq, Nat.reduceLeDiff, upK_t, upK_f, noMutI_l, noMutI_d, evE_call, evE_v, evE_k, evE_dnew, evE_tup, evE_lst, 
    evE_bin, evE_cmp, evE_ch, evE_and, evE_or, andK_ok, orK_ok, evE_not, evE_ife, evE_bf, evE_isi, evE_ix, evE_sl, evE_vals, evE_me, evL_nil, evL_cons, evBL_nil, 
    evBL_cons, evO_no, evO_k, evT_def, evB_def, evSt_set, evSt_ife, evSt_ret, evSt_frz, evSt_app, evSt_sti, evSt_unp, retE_v, retE_k, retE_tup, retE_lst, retE_bin, 
    retE_cmp, retE_ch, retE_and, retE_or, retE_not, retE_ife, retE_call, retE_bf, retE_isi, retE_ix, retE_sl, retE_lc, brw_v, brw_k, brw_g, brw_neg, brw_tup, 
    brw_lst, brw_bin, brw_cmp, brw_ch, brw_and, brw_or, brw_not, brw_ife, brw_call, brw_bf, brw_isi, brw_ix, brw_sl, brw_lc, brw_vals, brw_ge, brw_dnew, brw_me, 
    bd_ok, bd_ok', exO_ok, exO_ok', lift_some, slotV_sh, slotB_sh, slotB_ow, toB_ok, toB_ok', ok_def, sc, callR_ok, bin_add, bin_sub, bin_mul, bin_div, bin_mod, 
    bf_len_l, bf_len_t, bf_len_d, bf_list_l, bf_list_t, bf_list_d, bf_tuple_l, bf_dict_d, bf_max, bf_int_b, cmp_gt, cmp_lt, cmp_le, cmp_ge, cmp_eqi, cmp_eqs, 
    cmp_nes, cmp_is, ix_l, ix_t, trE_ok, truthE, mul_l, mul_r, putS, mutOld_no, mutOld_sh, mutOld_ow, slotOf_t, slotOf_f, frzE, stiE, appE, keyOf_int0, isSc_int, 
    isSc_str, isSc_none, isSc_bool, noMut_int, noMut_str, noMut_none, noMut_bool, noMut_list, noMut_dict, List.getElem?_cons_succ, List.getElem?_cons_zero, 
    List.set_cons_succ, List.set_cons_zero, List.length_cons, List.length_nil, List.length_map, Nat.reduceAdd, Nat.reduceLT, Int.reduceLT, Int.reduceMul, 
    Int.reduceAdd, Int.reduceSub, Int.reduceNeg, Int.reduceLE, Int.reduceToNat, Nat.reducePow, Int.reducePow, Option.bind_some, bin_pow, bin_add_t, bin_add_l, 
    bin_add_s, sl_t, sl_l, isOwL_t, atI2, atI2i, isOw_t, and_self, true_and, and_true, if_true, if_false, Bool.false_eq_true, decide_true, decide_false, 
    decide_eq_true_eq, Option.map_some, Bool.or_true, Bool.true_and, Bool.and_true, Bool.false_or, Bool.or_false, Bool.false_and, Bool.and_false, Bool.true_or, 
    Bool.or_self, Bool.and_self, seqO_nx, seqO_rt, seqO_er, evSv_r, evSv_l, items_l, items_t, evS_l, evS_r, callK_ok, callK_b0, callK_b1, callK_b2, callK_b3, 
    callK_b4, eq_self, Int.toNat_natCast, isi_none_tuple_list, isi_none_tuple, isi_none_list, isi_none_str, isi_none_int, isi_none_bool, isi_none_dict, 
    isi_bool_tuple_list, isi_bool_tuple, isi_bool_list, isi_bool_str, isi_bool_int, isi_bool_bool, isi_bool_dict, isi_int_tuple_list, isi_int_tuple, isi_int_list, 
    isi_int_str, isi_int_int, isi_int_bool, isi_int_dict, isi_str_tuple_list, isi_str_tuple, isi_str_list, isi_str_str, isi_str_int, isi_str_bool, isi_str_dict, 
    isi_list_tuple_list, isi_list_tuple, isi_list_list, isi_list_str, isi_list_int, isi_list_bool, isi_list_dict, isi_tuple_tuple_list, isi_tuple_tuple, 
    isi_tuple_list, isi_tuple_str, isi_tuple_int, isi_tuple_bool, isi_tuple_dict, isi_dict_tuple_list, isi_dict_tuple, isi_dict_list, isi_dict_str, isi_dict_int, 
    isi_dict_bool, isi_dict_dict, cmp_nei, cmp_neb, cmp_eqb, cmp_isb, cmp_isnb, cmp_in_d, cmp_nin_d, ix_d, bf_all_l, Int.cast_ofNat_Int, Int.ofNat_zero, 
    Int.ofNat_one, Int.reduceEq, Int.reduceNe, Nat.reduceEqDiff, not_true_eq_false, not_false_eq_true, Bool.not_true, Bool.not_false, Bool.not_not, 
    Option.isSome_some, Option.isSome_none, Bool.not_eq_true, Bool.and_eq_true, Bool.or_eq_true, Bool.not_eq_false, putAll_nil, putAll_cons, hideE, evC_so, cmp_nn, 
    cmp_en, bf_sorted, evSt_tl, evTl_set, evTl_tst, evTl_wrk, loE_cons, loE_nil, loS_no, loS_sh, loS_ow, oldFree_nil, oldFree_no, oldFree_sh, oldFree_ow, ne_eq, 
    evE_neg, bf_min, evE_g, at_last, cut_init, evO_so, cmp_isnot, evSt_mat, evCs_nil, putB_nil, bf_max_l, mu_sp_is_number, n_sp_is_number, kd_sp_is_number, 
    mu_sp_thing_of, n_sp_thing_of, kd_sp_thing_of, mu_sp_is_box, n_sp_is_box, kd_sp_is_box, mu_sp_is_function, n_sp_is_function, kd_sp_is_function, mu_sp_new_number, 
    n_sp_new_number, kd_sp_new_number, mu_sp_spoken, n_sp_spoken, kd_sp_spoken, mu_sp_reckoned, n_sp_reckoned, kd_sp_reckoned, mu_sp_lacks_own, n_sp_lacks_own, 
    kd_sp_lacks_own, mu_sp_is_wrong_kind, n_sp_is_wrong_kind, kd_sp_is_wrong_kind, mu_sp_is_too_great, n_sp_is_too_great, kd_sp_is_too_great, mu_sp_is_full, 
    n_sp_is_full, kd_sp_is_full, mu_sp_stuck_word, n_sp_stuck_word, kd_sp_stuck_word, mu_sp_push, n_sp_push, kd_sp_push, mu_sp_keep, n_sp_keep, kd_sp_keep, 
    mu_sp_push_new, n_sp_push_new, kd_sp_push_new, mu_sp_go, n_sp_go, kd_sp_go, mu_sp_own_values, n_sp_own_values, kd_sp_own_values, mu_sp_do_instruction, 
    n_sp_do_instruction, kd_sp_do_instruction, mu_sp_stepped, n_sp_stepped, kd_sp_stepped, mu_sp__law_cell, n_sp__law_cell, kd_sp__law_cell, mu_sp__law_raw, 
    n_sp__law_raw, kd_sp__law_raw, mu_sp__law_whole, n_sp__law_whole, kd_sp__law_whole, mu_sp__law_number, n_sp__law_number, kd_sp__law_number, mu_sp__law_value, 
    n_sp__law_value, kd_sp__law_value, mu_sp__law_values, n_sp__law_values, kd_sp__law_values, mu_sp__law_names, n_sp__law_names, kd_sp__law_names, 
    mu_sp__law_things, n_sp__law_things, kd_sp__law_things, mu_sp__law_frame, n_sp__law_frame, kd_sp__law_frame, mu_sp__law_frames, n_sp__law_frames, 
    kd_sp__law_frames, mu_sp__law_row, n_sp__law_row, kd_sp__law_row, mu_sp__law_program, n_sp__law_program, kd_sp__law_program, mu_sp__law_state, n_sp__law_state, 
    kd_sp__law_state, mu_sp__law_topped, n_sp__law_topped, kd_sp__law_topped, mu_sp__law_same_things, n_sp__law_same_things, kd_sp__law_same_things, 
    mu_sp__law_same_state, n_sp__law_same_state, kd_sp__law_same_state, mu_sp__law_copy, n_sp__law_copy, kd_sp__law_copy, mu_sp__law_is_box, n_sp__law_is_box, 
    kd_sp__law_is_box, mu_sp__law_due, n_sp__law_due, kd_sp__law_due, mu_sp_law, n_sp_law, kd_sp_law, mu_sp__law_alike, n_sp__law_alike, kd_sp__law_alike, noMut_st])
theorem topped_ok (s ns : List Int) (ws wsP : List Str) (bs : List (List R.D)) (fs : List R.D) (es : List (R.D × R.D)) (hl : s.length ≤ 64) (P : PrD wsP bs) (hne : fs ≠ []) (hfl : fs.length ≤ 60) (hf : ∀ f, f ∈ fs → FrD ns bs f) (hw : ws ≠ []) (hw2 : (ws.length : Int) < 1000) (hws : ∀ w, w ∈ ws → shapedB (.str w) = true) :
    ∃ (fs0 : List R.D) (b pl : Nat) (own st body : List R.D) (row : R.D) (bs' : List (List R.D)), (∀ f, f ∈ fs0 → f ∈ fs) ∧ fs0.length + 1 = fs.length ∧ bs'.length = bs.length ∧ (∀ r, r ∈ bs' → r = body ∨ r ∈ bs) ∧ (body.length ≤ 100 ∧ ∀ d, d ∈ body → d = row ∨ ∃ r, r ∈ bs ∧ d ∈ r) ∧ TopD ws ns bs' b pl own st body row ∧
      sp__law_topped.F [.list (s.map .int), .list (bs.map .list), .tuple [.none, .list fs, .dict es], .list (ws.map .str)] = some (.ok (.tuple [.none, .list (fs0 ++ [.tuple [.int b, .int pl, .tuple own, .tuple st]]), .dict es], [.list (bs'.map .list)])) := by
  obtain ⟨fs0, f, rfl⟩ : ∃ fs0 f, fs = fs0 ++ [f] := ⟨fs.dropLast, fs.getLast hne, (List.dropLast_concat_getLast hne).symm⟩
  have hl3 : lenOk (fs0.length + 1) = true := lenOk_of (by rw [List.length_append] at hfl; simp only [List.length_cons, List.length_nil] at hfl; omega)
  obtain ⟨b, p, own, st, rows, rfl, hb, hp, vo, vs⟩ := hf f (List.mem_append_right _ (List.mem_singleton.mpr rfl))
  have hk : ∃ ft : R.FT, ft.fn "_law_row" = some sp__law_row ∧ sp__law_topped.F [.list (s.map .int), .list (bs.map .list), .tuple [.none, .list (fs0 ++ [.tuple [.int b, .int p, .tuple own, .tuple st]]), .dict es], .list (ws.map .str)] =
      endD ⟨4, [1], ⟨false, false⟩, fun _ => none⟩ (evSl ft b__law_topped [.sh false (.list (s.map .int)), .ow false false (.list (bs.map .list)), .sh false (.tuple [.none, .list (fs0 ++ [.tuple [.int b, .int p, .tuple own, .tuple st]]), .dict es]), .sh false (.list (ws.map .str)), .no, .no, .no, .no]) := ⟨_, rfl, un__law_topped _ _ _ _⟩
  obtain ⟨ft, f1, hk⟩ := hk
  rw [hk]
  have hbl : b < bs.length := (List.getElem?_eq_some_iff.mp hb).1
  have hrl := (P.row rows (List.mem_of_getElem? hb)).1
  obtain ⟨pl, hpl, hp59, hpp⟩ : ∃ pl : Nat, (if (59 : Int) < (p : Int) then 59 else (p : Int)) = (pl : Int) ∧ pl ≤ 59 ∧ pl ≤ p := by
    by_cases h : (59 : Int) < (p : Int)
    · exact ⟨59, by rw [if_pos h]; rfl, by omega, by omega⟩
    · exact ⟨p, by rw [if_neg h], by omega, Nat.le_refl _⟩
  obtain ⟨sz, hsz, hsz2⟩ : ∃ sz : Nat, (if (pl : Int) + 1 > (rows.length : Int) then (pl : Int) + 1 else (rows.length : Int)) = (sz : Int) ∧ sz = (rows.take pl ++ [PyData.none] ++ rows.drop (pl + 1)).length := by
    rw [List.length_append, List.length_append, List.length_take, List.length_drop]
    simp only [List.length_cons, List.length_nil]
    by_cases h : (pl : Int) + 1 > (rows.length : Int)
    · exact ⟨pl + 1, by rw [if_pos h]; rfl, by omega⟩
    · exact ⟨rows.length, by rw [if_neg h], by omega⟩
  obtain ⟨row, hrow, er⟩ := row_ok s 7 ws bs.length sz hl hw hw2 hws P.pos (Int.natCast_nonneg _)
  have hx : L2.atI (bs.map PyData.list) (b : Int) = some (.list rows) := L2.atI_nat (by rw [List.getElem?_map, hb]; rfl)
  have a0 : ∀ x y z : R.D, L2.atI [x, y, z] 0 = some x := fun _ _ _ => rfl
  have a1 : ∀ x y z : R.D, L2.atI [x, y, z] 1 = some y := fun _ _ _ => rfl
  have a2 : ∀ x y z : R.D, L2.atI [x, y, z] 2 = some z := fun _ _ _ => rfl
  have b0 : ∀ x y z w : R.D, L2.atI [x, y, z, w] 0 = some x := fun _ _ _ _ => rfl
  have b1 : ∀ x y z w : R.D, L2.atI [x, y, z, w] 1 = some y := fun _ _ _ _ => rfl
  have b2 : ∀ x y z w : R.D, L2.atI [x, y, z, w] 2 = some z := fun _ _ _ _ => rfl
  have b3 : ∀ x y z w : R.D, L2.atI [x, y, z, w] 3 = some w := fun _ _ _ _ => rfl
  have ct : cutD rows none (some (pl : Int)) = rows.take pl := cut_to
  have cf : cutD rows (some ((pl : Int) + 1)) none = rows.drop (pl + 1) := cut_from (m := pl + 1)
  have hl1 : lenOk ((rows.take pl).length + 1) = true := lenOk_of (by rw [List.length_take]; omega)
  have hl2 : lenOk ((rows.take pl ++ [row]).length + (rows.drop (pl + 1)).length) = true := lenOk_of (by rw [List.length_append, List.length_take, List.length_drop]; simp only [List.length_cons, List.length_nil]; omega)
  refine ⟨fs0, b, pl, own, st, rows.take pl ++ [row] ++ rows.drop (pl + 1), row, bs.set b (rows.take pl ++ [row] ++ rows.drop (pl + 1)), fun f h => List.mem_append_left _ h, by rw [List.length_append]; rfl, List.length_set, fun r hr => ?_, ⟨by rw [List.length_append, List.length_append, List.length_take, List.length_drop]; simp only [List.length_cons, List.length_nil]; omega, fun d hd => ?_⟩, ⟨?_, ?_, ?_, vo, vs⟩, ?_⟩
  · rcases List.mem_or_eq_of_mem_set hr with z | z
    · exact .inr z
    · exact .inl z
  · rcases List.mem_append.mp hd with z | z
    · rcases List.mem_append.mp z with z | z
      · exact .inr ⟨rows, List.mem_of_getElem? hb, List.mem_of_mem_take z⟩
      · exact .inl (List.mem_singleton.mp z)
    · exact .inr ⟨rows, List.mem_of_getElem? hb, List.mem_of_mem_drop z⟩
  · rw [List.getElem?_set_self hbl]
  · rw [List.append_assoc, List.getElem?_append_right (by rw [List.length_take]; omega), List.length_take, Nat.min_eq_left (by omega), Nat.sub_self]
    rfl
  · rw [List.length_set]
    have e : (rows.take pl ++ [row] ++ rows.drop (pl + 1)).length = sz := by rw [hsz2, List.length_append, List.length_append, List.length_append, List.length_append]; rfl
    rw [e]
    exact hrow
  · unfold b__law_topped
    (rw [evSl_cons]; simp! [a1])
    (rw [evSl_cons]; simp! [b0, hx])
    (rw [evSl_cons]; simp! [b1, hpl])
    (rw [evSl_cons]; simp! [f1, hsz, er])
    (rw [evSl_cons]; simp! [b0, ct, cf, hl1, hl2, ixN_nat hbl])
    (rw [evSl_cons]; simp! [a1, a2, b0, b2, b3, hl3])
    rw [List.map_set]
    rfl
end K03RWA
namespace K03RWA
open PySem PySem.Spec PyProof.Rows L2 R
/-- things, all of them there that values lead to -/
structure Dom (ns ks : List Int) (nb : Int) (es : List (R.D × R.D)) : Prop where
  ts : TsD ns nb es
  dom : ∀ n, n ∈ ns → n ∈ ks
  keys : es.map (·.1) = ks.map PyData.int
theorem Dom.get {ns ks : List Int} {nb : Int} {es : List (R.D × R.D)} (Dm : Dom ns ks nb es) {n : Int} (h : n ∈ ns) : ∃ t, dgetE es (.inl n) = some t ∧ ThD ns nb t := by
  obtain ⟨t, e⟩ := dget_some (es := es) (k := .inl n) (by rw [Dm.keys]; exact List.mem_map.mpr ⟨n, Dm.dom n h, rfl⟩)
  exact ⟨t, e, Dm.ts.val _ (dget_mem e)⟩
/-- what a value leads to -/
def thOf (es : List (R.D × R.D)) : R.D → R.D
  | .tuple [_, .int n] => (dgetE es (.inl n)).getD .none
  | _ => .none
def kindB (x : Str) : R.D → Bool
  | .tuple (.str y :: _) => decide (y = x)
  | _ => false
local macro_rules | `(tactic| simp! [$ls,*]) => `(tactic| simp only [lit_inj, shaped_lit, small_lit, len_lit, String.reduceEq, Nat.reduceLeDiff, upK_t, upK_f, noMutI_l, noMutI_d, evE_call, evE_v, evE_k, evE_dnew, evE_tup, evE_lst, 
    evE_bin, evE_cmp, evE_ch, evE_and, evE_or, andK_ok, orK_ok, evE_not, evE_ife, evE_bf, evE_isi, evE_ix, evE_sl, evE_vals, evE_me, evL_nil, evL_cons, evBL_nil, 
    evBL_cons, evO_no, evO_k, evT_def, evB_def, evSt_set, evSt_ife, evSt_ret, evSt_frz, evSt_app, evSt_sti, evSt_unp, retE_v, retE_k, retE_tup, retE_lst, retE_bin, 
    retE_cmp, retE_ch, retE_and, retE_or, retE_not, retE_ife, retE_call, retE_bf, retE_isi, retE_ix, retE_sl, retE_lc, brw_v, brw_k, brw_g, brw_neg, brw_tup, 
    brw_lst, brw_bin, brw_cmp, brw_ch, brw_and, brw_or, brw_not, brw_ife, brw_call, brw_bf, brw_isi, brw_ix, brw_sl, brw_lc, brw_vals, brw_ge, brw_dnew, brw_me, 
    bd_ok, bd_ok', exO_ok, exO_ok', lift_some, slotV_sh, slotB_sh, slotB_ow, toB_ok, toB_ok', ok_def, sc, callR_ok, bin_add, bin_sub, bin_mul, bin_div, bin_mod, 
    bf_len_l, bf_len_t, bf_len_d, bf_list_l, bf_list_t, bf_list_d, bf_tuple_l, bf_dict_d, bf_max, bf_int_b, cmp_gt, cmp_lt, cmp_le, cmp_ge, cmp_eqi, cmp_eqs, 
    cmp_nes, cmp_is, ix_l, ix_t, trE_ok, truthE, mul_l, mul_r, putS, mutOld_no, mutOld_sh, mutOld_ow, slotOf_t, slotOf_f, frzE, stiE, appE, keyOf_int0, isSc_int, 
    isSc_str, isSc_none, isSc_bool, noMut_int, noMut_str, noMut_none, noMut_bool, noMut_list, noMut_dict, List.getElem?_cons_succ, List.getElem?_cons_zero, 
    List.set_cons_succ, List.set_cons_zero, List.length_cons, List.length_nil, List.length_map, Nat.reduceAdd, Nat.reduceLT, Int.reduceLT, Int.reduceMul, 
    Int.reduceAdd, Int.reduceSub, Int.reduceNeg, Int.reduceLE, Int.reduceToNat, Nat.reducePow, Int.reducePow, Option.bind_some, bin_pow, bin_add_t, bin_add_l, 
    bin_add_s, sl_t, sl_l, isOwL_t, atI2, atI2i, isOw_t, and_self, true_and, and_true, if_true, if_false, Bool.false_eq_true, decide_true, decide_false, 
    decide_eq_true_eq, Option.map_some, Bool.or_true, Bool.true_and, Bool.and_true, Bool.false_or, Bool.or_false, Bool.false_and, Bool.and_false, Bool.true_or, 
    Bool.or_self, Bool.and_self, seqO_nx, seqO_rt, seqO_er, evSv_r, evSv_l, items_l, items_t, evS_l, evS_r, callK_ok, callK_b0, callK_b1, callK_b2, callK_b3, 
    callK_b4, eq_self, Int.toNat_natCast, isi_none_tuple_list, isi_none_tuple, isi_none_list, isi_none_str, isi_none_int, isi_none_bool, isi_none_dict, 
    isi_bool_tuple_list, isi_bool_tuple, isi_bool_list, isi_bool_str, isi_bool_int, isi_bool_bool, isi_bool_dict, isi_int_tuple_list, isi_int_tuple, isi_int_list, 
    isi_int_str, isi_int_int, isi_int_bool, isi_int_dict, isi_str_tuple_list, isi_str_tuple, isi_str_list, isi_str_str, isi_str_int, isi_str_bool, isi_str_dict, 
    isi_list_tuple_list, isi_list_tuple, isi_list_list, isi_list_str, isi_list_int, isi_list_bool, isi_list_dict, isi_tuple_tuple_list, isi_tuple_tuple, 
    isi_tuple_list, isi_tuple_str, isi_tuple_int, isi_tuple_bool, isi_tuple_dict, isi_dict_tuple_list, isi_dict_tuple, isi_dict_list, isi_dict_str, isi_dict_int, 
    isi_dict_bool, isi_dict_dict, cmp_nei, cmp_neb, cmp_eqb, cmp_isb, cmp_isnb, cmp_in_d, cmp_nin_d, ix_d, bf_all_l, Int.cast_ofNat_Int, Int.ofNat_zero, 
    Int.ofNat_one, Int.reduceEq, Int.reduceNe, Nat.reduceEqDiff, not_true_eq_false, not_false_eq_true, Bool.not_true, Bool.not_false, Bool.not_not, 
    Option.isSome_some, Option.isSome_none, Bool.not_eq_true, Bool.and_eq_true, Bool.or_eq_true, Bool.not_eq_false, putAll_nil, putAll_cons, hideE, evC_so, cmp_nn, 
    cmp_en, bf_sorted, evSt_tl, evTl_set, evTl_tst, evTl_wrk, loE_cons, loE_nil, loS_no, loS_sh, loS_ow, oldFree_nil, oldFree_no, oldFree_sh, oldFree_ow, ne_eq, 
    evE_neg, bf_min, evE_g, at_last, cut_init, evO_so, cmp_isnot, evSt_mat, evCs_nil, putB_nil, bf_max_l, mu_sp_is_number, n_sp_is_number, kd_sp_is_number, 
    mu_sp_thing_of, n_sp_thing_of, kd_sp_thing_of, mu_sp_is_box, n_sp_is_box, kd_sp_is_box, mu_sp_is_function, n_sp_is_function, kd_sp_is_function, mu_sp_new_number, 
    n_sp_new_number, kd_sp_new_number, mu_sp_spoken, n_sp_spoken, kd_sp_spoken, mu_sp_reckoned, n_sp_reckoned, kd_sp_reckoned, mu_sp_lacks_own, n_sp_lacks_own, 
    kd_sp_lacks_own, mu_sp_is_wrong_kind, n_sp_is_wrong_kind, kd_sp_is_wrong_kind, mu_sp_is_too_great, n_sp_is_too_great, kd_sp_is_too_great, mu_sp_is_full, 
    n_sp_is_full, kd_sp_is_full, mu_sp_stuck_word, n_sp_stuck_word, kd_sp_stuck_word, mu_sp_push, n_sp_push, kd_sp_push, mu_sp_keep, n_sp_keep, kd_sp_keep, 
    mu_sp_push_new, n_sp_push_new, kd_sp_push_new, mu_sp_go, n_sp_go, kd_sp_go, mu_sp_own_values, n_sp_own_values, kd_sp_own_values, mu_sp_do_instruction, 
    n_sp_do_instruction, kd_sp_do_instruction, mu_sp_stepped, n_sp_stepped, kd_sp_stepped, mu_sp__law_cell, n_sp__law_cell, kd_sp__law_cell, mu_sp__law_raw, 
    n_sp__law_raw, kd_sp__law_raw, mu_sp__law_whole, n_sp__law_whole, kd_sp__law_whole, mu_sp__law_number, n_sp__law_number, kd_sp__law_number, mu_sp__law_value, 
    n_sp__law_value, kd_sp__law_value, mu_sp__law_values, n_sp__law_values, kd_sp__law_values, mu_sp__law_names, n_sp__law_names, kd_sp__law_names, 
    mu_sp__law_things, n_sp__law_things, kd_sp__law_things, mu_sp__law_frame, n_sp__law_frame, kd_sp__law_frame, mu_sp__law_frames, n_sp__law_frames, 
    kd_sp__law_frames, mu_sp__law_row, n_sp__law_row, kd_sp__law_row, mu_sp__law_program, n_sp__law_program, kd_sp__law_program, mu_sp__law_state, n_sp__law_state, 
    kd_sp__law_state, mu_sp__law_topped, n_sp__law_topped, kd_sp__law_topped, mu_sp__law_same_things, n_sp__law_same_things, kd_sp__law_same_things, 
    mu_sp__law_same_state, n_sp__law_same_state, kd_sp__law_same_state, mu_sp__law_copy, n_sp__law_copy, kd_sp__law_copy, mu_sp__law_is_box, n_sp__law_is_box, 
    kd_sp__law_is_box, mu_sp__law_due, n_sp__law_due, kd_sp__law_due, mu_sp_law, n_sp_law, kd_sp_law, mu_sp__law_alike, n_sp__law_alike, kd_sp__law_alike, noMut_st, $ls,*])
local macro_rules | `(tactic| simp!) => `(tactic| simp only [lit_inj, shaped_lit, small_lit, len_lit, String.reduceEq, Nat.reduceLeDiff, upK_t, upK_f, noMutI_l, noMutI_d, evE_call, evE_v, evE_k, evE_dnew, evE_tup, evE_lst, 
    evE_bin, evE_cmp, evE_ch, evE_and, evE_or, andK_ok, orK_ok, evE_not, evE_ife, evE_bf, evE_isi, evE_ix, evE_sl, evE_vals, evE_me, evL_nil, evL_cons, evBL_nil, 
    evBL_cons, evO_no, evO_k, evT_def, evB_def, evSt_set, evSt_ife, evSt_ret, evSt_frz, evSt_app, evSt_sti, evSt_unp, retE_v, retE_k, retE_tup, retE_lst, retE_bin, 
    retE_cmp, retE_ch, retE_and, retE_or, retE_not, retE_ife, retE_call, retE_bf, retE_isi, retE_ix, retE_sl, retE_lc, brw_v, brw_k, brw_g, brw_neg, brw_tup, 
    brw_lst, brw_bin, brw_cmp, brw_ch, brw_and, brw_or, brw_not, brw_ife, brw_call, brw_bf, brw_isi, brw_ix, brw_sl, brw_lc, brw_vals, brw_ge, brw_dnew, brw_me, 
    bd_ok, bd_ok', exO_ok, exO_ok', lift_some, slotV_sh, slotB_sh, slotB_ow, toB_ok, toB_ok', ok_def, sc, callR_ok, bin_add, bin_sub, bin_mul, bin_div, bin_mod, 
    bf_len_l, bf_len_t, bf_len_d, bf_list_l, bf_list_t, bf_list_d, bf_tuple_l, bf_dict_d, bf_max, bf_int_b, cmp_gt, cmp_lt, cmp_le, cmp_ge, cmp_eqi, cmp_eqs, 
    cmp_nes, cmp_is, ix_l, ix_t, trE_ok, truthE, mul_l, mul_r, putS, mutOld_no, mutOld_sh, mutOld_ow, slotOf_t, slotOf_f, frzE, stiE, appE, keyOf_int0, isSc_int, 
    isSc_str, isSc_none, isSc_bool, noMut_int, noMut_str, noMut_none, noMut_bool, noMut_list, noMut_dict, List.getElem?_cons_succ, List.getElem?_cons_zero, 
    List.set_cons_succ, List.set_cons_zero, List.length_cons, List.length_nil, List.length_map, Nat.reduceAdd, Nat.reduceLT, Int.reduceLT, Int.reduceMul, 
    Int.reduceAdd, Int.reduceSub, Int.reduceNeg, Int.reduceLE, Int.reduceToNat, Nat.reducePow, Int.reducePow, Option.bind_some, bin_pow, bin_add_t, bin_add_l, 
    bin_add_s, sl_t, sl_l, isOwL_t, atI2, atI2i, isOw_t, and_self, true_and, and_true, if_true, if_false, Bool.false_eq_true, decide_true, decide_false, 
    decide_eq_true_eq, Option.map_some, Bool.or_true, Bool.true_and, Bool.and_true, Bool.false_or, Bool.or_false, Bool.false_and, Bool.and_false, Bool.true_or, 
    Bool.or_self, Bool.and_self, seqO_nx, seqO_rt, seqO_er, evSv_r, evSv_l, items_l, items_t, evS_l, evS_r, callK_ok, callK_b0, callK_b1, callK_b2, callK_b3, 
    callK_b4, eq_self, Int.toNat_natCast, isi_none_tuple_list, isi_none_tuple, isi_none_list, isi_none_str, isi_none_int, isi_none_bool, isi_none_dict, 
    isi_bool_tuple_list, isi_bool_tuple, isi_bool_list, isi_bool_str, isi_bool_int, isi_bool_bool, isi_bool_dict, isi_int_tuple_list, isi_int_tuple, isi_int_list, 
    isi_int_str, isi_int_int, isi_int_bool, isi_int_dict, isi_str_tuple_list, isi_str_tuple, isi_str_list, isi_str_str, isi_str_int, isi_str_bool, isi_str_dict, 
    isi_list_tuple_list, isi_list_tuple, isi_list_list, isi_list_str, isi_list_int, isi_list_bool, isi_list_dict, isi_tuple_tuple_list, isi_tuple_tuple, 
    isi_tuple_list, isi_tuple_str, isi_tuple_int, isi_tuple_bool, isi_tuple_dict, isi_dict_tuple_list, isi_dict_tuple, isi_dict_list, isi_dict_str, isi_dict_int, 
    isi_dict_bool, isi_dict_dict, cmp_nei, cmp_neb, cmp_eqb, cmp_isb, cmp_isnb, cmp_in_d, cmp_nin_d, ix_d, bf_all_l, Int.cast_ofNat_Int, Int.ofNat_zero, 
    Int.ofNat_one, Int.reduceEq, Int.reduceNe, Nat.reduceEqDiff, not_true_eq_false, not_false_eq_true, Bool.not_true, Bool.not_false, Bool.not_not, 
    Option.isSome_some, Option.isSome_none, Bool.not_eq_true, Bool.and_eq_true, Bool.or_eq_true, Bool.not_eq_false, putAll_nil, putAll_cons, hideE, evC_so, cmp_nn, 
    cmp_en, bf_sorted, evSt_tl, evTl_set, evTl_tst, evTl_wrk, loE_cons, loE_nil, loS_no, loS_sh, loS_ow, oldFree_nil, oldFree_no, oldFree_sh, oldFree_ow, ne_eq, 
    evE_neg, bf_min, evE_g, at_last, cut_init, evO_so, cmp_isnot, evSt_mat, evCs_nil, putB_nil, bf_max_l, mu_sp_is_number, n_sp_is_number, kd_sp_is_number, 
    mu_sp_thing_of, n_sp_thing_of, kd_sp_thing_of, mu_sp_is_box, n_sp_is_box, kd_sp_is_box, mu_sp_is_function, n_sp_is_function, kd_sp_is_function, mu_sp_new_number, 
    n_sp_new_number, kd_sp_new_number, mu_sp_spoken, n_sp_spoken, kd_sp_spoken, mu_sp_reckoned, n_sp_reckoned, kd_sp_reckoned, mu_sp_lacks_own, n_sp_lacks_own, 
    kd_sp_lacks_own, mu_sp_is_wrong_kind, n_sp_is_wrong_kind, kd_sp_is_wrong_kind, mu_sp_is_too_great, n_sp_is_too_great, kd_sp_is_too_great, mu_sp_is_full, 
    n_sp_is_full, kd_sp_is_full, mu_sp_stuck_word, n_sp_stuck_word, kd_sp_stuck_word, mu_sp_push, n_sp_push, kd_sp_push, mu_sp_keep, n_sp_keep, kd_sp_keep, 
    mu_sp_push_new, n_sp_push_new, kd_sp_push_new, mu_sp_go, n_sp_go, kd_sp_go, mu_sp_own_values, n_sp_own_values, kd_sp_own_values, mu_sp_do_instruction, 
    n_sp_do_instruction, kd_sp_do_instruction, mu_sp_stepped, n_sp_stepped, kd_sp_stepped, mu_sp__law_cell, n_sp__law_cell, kd_sp__law_cell, mu_sp__law_raw, 
    n_sp__law_raw, kd_sp__law_raw, mu_sp__law_whole, n_sp__law_whole, kd_sp__law_whole, mu_sp__law_number, n_sp__law_number, kd_sp__law_number, mu_sp__law_value, 
    n_sp__law_value, kd_sp__law_value, mu_sp__law_values, n_sp__law_values, kd_sp__law_values, mu_sp__law_names, n_sp__law_names, kd_sp__law_names, 
    mu_sp__law_things, n_sp__law_things, kd_sp__law_things, mu_sp__law_frame, n_sp__law_frame, kd_sp__law_frame, mu_sp__law_frames, n_sp__law_frames, 
    kd_sp__law_frames, mu_sp__law_row, n_sp__law_row, kd_sp__law_row, mu_sp__law_program, n_sp__law_program, kd_sp__law_program, mu_sp__law_state, n_sp__law_state, 
    kd_sp__law_state, mu_sp__law_topped, n_sp__law_topped, kd_sp__law_topped, mu_sp__law_same_things, n_sp__law_same_things, kd_sp__law_same_things, 
    mu_sp__law_same_state, n_sp__law_same_state, kd_sp__law_same_state, mu_sp__law_copy, n_sp__law_copy, kd_sp__law_copy, mu_sp__law_is_box, n_sp__law_is_box, 
    kd_sp__law_is_box, mu_sp__law_due, n_sp__law_due, kd_sp__law_due, mu_sp_law, n_sp_law, kd_sp_law, mu_sp__law_alike, n_sp__law_alike, kd_sp__law_alike, noMut_st])
theorem thing_of_ok {ns ks : List Int} {nb : Int} {es : List (R.D × R.D)} {v : R.D} (Dm : Dom ns ks nb es) (hv : VD ns v) : sp_thing_of.F [v, .dict es] = some (.ok (thOf es v, [])) := by
  have hk : ∃ ft : R.FT, sp_thing_of.F [v, .dict es] = endD ⟨2, [], ⟨false, false⟩, fun _ => none⟩ (evSl ft b_thing_of [.sh false v, .sh false (.dict es)]) := ⟨_, un_thing_of _ _⟩
  obtain ⟨ft, hk⟩ := hk
  rw [hk]
  apply Ends.eq
  unfold b_thing_of
  rcases hv with ⟨z, rfl, _⟩ | ⟨n, hn, rfl⟩
  · (rw [evSl_cons]; simp!)
    rw [evSl_nil, seqO_nx]
    (rw [evSl_cons]; simp!)
    exact Ends.mk rfl
  · obtain ⟨t, e, _⟩ := Dm.get hn
    have a1 : L2.atI [PyData.str "at", .int n] 1 = some (.int n) := rfl
    (rw [evSl_cons]; simp!)
    (rw [evSl_cons]; simp! [a1, e])
    refine Ends.mk ?_
    show t = (dgetE es (.inl n)).getD .none
    rw [e]; rfl
theorem thOf_or {ns ks : List Int} {nb : Int} {es : List (R.D × R.D)} {v : R.D} (Dm : Dom ns ks nb es) (hv : VD ns v) : thOf es v = .none ∨ ThD ns nb (thOf es v) := by
  rcases hv with ⟨z, rfl, _⟩ | ⟨n, hn, rfl⟩
  · exact .inl rfl
  · obtain ⟨t, e, ht⟩ := Dm.get hn
    right
    show ThD ns nb ((dgetE es (.inl n)).getD .none)
    rw [e]; exact ht
theorem is_box_ok {ns ks : List Int} {nb : Int} {es : List (R.D × R.D)} {v : R.D} (Dm : Dom ns ks nb es) (hv : VD ns v) : sp_is_box.F [v, .dict es] = some (.ok (.bool (kindB "box" (thOf es v)), [])) := by
  have hk : ∃ ft : R.FT, ft.fn "thing_of" = some sp_thing_of ∧ sp_is_box.F [v, .dict es] = endD ⟨2, [], ⟨false, false⟩, fun _ => none⟩ (evSl ft b_is_box [.sh false v, .sh false (.dict es), .no]) := ⟨_, rfl, un_is_box _ _⟩
  obtain ⟨ft, f1, hk⟩ := hk
  rw [hk]
  apply Ends.eq
  unfold b_is_box
  (rw [evSl_cons]; simp! [f1, thing_of_ok Dm hv])
  rcases thOf_or Dm hv with h | h
  · rw [h]
    (rw [evSl_cons]; simp!)
    exact Ends.mk rfl
  · generalize thOf es v = t at h
    rcases h with ⟨u, hu, rfl⟩ | ⟨b, kk, _, _, _, _, rfl⟩
    · have a0 : L2.atI [PyData.str "box", u] 0 = some (.str "box") := rfl
      (rw [evSl_cons]; simp! [a0])
      exact Ends.mk (by simp [kindB])
    · have a0 : L2.atI [PyData.str "fun", .int b, .tuple kk] 0 = some (.str "fun") := rfl
      (rw [evSl_cons]; simp! [a0])
      exact Ends.mk (by simp! [kindB])
theorem is_function_ok {ns ks : List Int} {nb : Int} {es : List (R.D × R.D)} {v : R.D} (Dm : Dom ns ks nb es) (hv : VD ns v) : sp_is_function.F [v, .dict es] = some (.ok (.bool (kindB "fun" (thOf es v)), [])) := by
  have hk : ∃ ft : R.FT, ft.fn "thing_of" = some sp_thing_of ∧ sp_is_function.F [v, .dict es] = endD ⟨2, [], ⟨false, false⟩, fun _ => none⟩ (evSl ft b_is_function [.sh false v, .sh false (.dict es), .no]) := ⟨_, rfl, un_is_function _ _⟩
  obtain ⟨ft, f1, hk⟩ := hk
  rw [hk]
  apply Ends.eq
  unfold b_is_function
  (rw [evSl_cons]; simp! [f1, thing_of_ok Dm hv])
  rcases thOf_or Dm hv with h | h
  · rw [h]
    (rw [evSl_cons]; simp!)
    exact Ends.mk rfl
  · generalize thOf es v = t at h
    rcases h with ⟨u, hu, rfl⟩ | ⟨b, kk, _, _, _, _, rfl⟩
    · have a0 : L2.atI [PyData.str "box", u] 0 = some (.str "box") := rfl
      (rw [evSl_cons]; simp! [a0])
      exact Ends.mk (by simp! [kindB])
    · have a0 : L2.atI [PyData.str "fun", .int b, .tuple kk] 0 = some (.str "fun") := rfl
      (rw [evSl_cons]; simp! [a0])
      exact Ends.mk (by simp [kindB])
/-- the next thing's number -/
def newN (ks : List Int) : Int := match maxI ks with
  | none => 0
  | some m => m + 1
theorem new_number_ok {ks : List Int} {es : List (R.D × R.D)} (h : es.map (·.1) = ks.map PyData.int) : sp_new_number.F [.dict es] = some (.ok (.int (newN ks), [])) := by
  have hk : ∃ ft : R.FT, sp_new_number.F [.dict es] = endD ⟨1, [], ⟨false, true⟩, fun _ => none⟩ (evSl ft b_new_number [.sh false (.dict es)]) := ⟨_, un_new_number _⟩
  obtain ⟨ft, hk⟩ := hk
  rw [hk]
  apply EndsK.eq
  unfold b_new_number
  cases ks with
  | nil =>
    have he : es = [] := List.map_eq_nil_iff.mp h
    subst he
    (rw [evSl_cons]; simp!)
    (rw [evSl_cons]; simp!)
    exact EndsK.nm rfl rfl
  | cons k ks =>
    have hne : es.isEmpty = false := by
      cases es with
      | nil => cases h
      | cons _ _ => rfl
    have hm : maxI (k :: ks) = some (ks.foldl (fun a b => if b > a then b else a) k) := rfl
    (rw [evSl_cons]; simp! [hne])
    rw [evSl_nil, seqO_nx]
    (rw [evSl_cons]; simp! [h, hm])
    exact EndsK.nm (by unfold newN; rw [hm]) rfl
end K03RWA
namespace K03RWA
open PySem PySem.Spec PyProof.Rows L2 R
theorem kd_popped_by : sp_popped_by.kd = ⟨false, false⟩ := Eq.trans rfl rfl
theorem mu_popped_by : sp_popped_by.mu = [] := Eq.trans rfl rfl
theorem n_popped_by : sp_popped_by.n = 1 := Eq.trans rfl rfl
theorem pop_eq (w : Str) : sp_popped_by.F [.str w] = some (.ok (.int ((kv_POPPED.lookup w).getD 0), [])) := rfl
local macro_rules | `(tactic| simp! [$ls,*]) => `(tactic| simp only [lit_inj, shaped_lit, small_lit, len_lit, String.reduceEq, Nat.reduceLeDiff, upK_t, upK_f, noMutI_l, noMutI_d, evE_call, evE_v, evE_k, evE_dnew, evE_tup, evE_lst, 
    evE_bin, evE_cmp, evE_ch, evE_and, evE_or, andK_ok, orK_ok, evE_not, evE_ife, evE_bf, evE_isi, evE_ix, evE_sl, evE_vals, evE_me, evL_nil, evL_cons, evBL_nil, 
    evBL_cons, evO_no, evO_k, evT_def, evB_def, evSt_set, evSt_ife, evSt_ret, evSt_frz, evSt_app, evSt_sti, evSt_unp, retE_v, retE_k, retE_tup, retE_lst, retE_bin, 
    retE_cmp, retE_ch, retE_and, retE_or, retE_not, retE_ife, retE_call, retE_bf, retE_isi, retE_ix, retE_sl, retE_lc, brw_v, brw_k, brw_g, brw_neg, brw_tup, 
    brw_lst, brw_bin, brw_cmp, brw_ch, brw_and, brw_or, brw_not, brw_ife, brw_call, brw_bf, brw_isi, brw_ix, brw_sl, brw_lc, brw_vals, brw_ge, brw_dnew, brw_me, 
    bd_ok, bd_ok', exO_ok, exO_ok', lift_some, slotV_sh, slotB_sh, slotB_ow, toB_ok, toB_ok', ok_def, sc, callR_ok, bin_add, bin_sub, bin_mul, bin_div, bin_mod, 
    bf_len_l, bf_len_t, bf_len_d, bf_list_l, bf_list_t, bf_list_d, bf_tuple_l, bf_dict_d, bf_max, bf_int_b, cmp_gt, cmp_lt, cmp_le, cmp_ge, cmp_eqi, cmp_eqs, 
    cmp_nes, cmp_is, ix_l, ix_t, trE_ok, truthE, mul_l, mul_r, putS, mutOld_no, mutOld_sh, mutOld_ow, slotOf_t, slotOf_f, frzE, stiE, appE, keyOf_int0, isSc_int, 
    isSc_str, isSc_none, isSc_bool, noMut_int, noMut_str, noMut_none, noMut_bool, noMut_list, noMut_dict, List.getElem?_cons_succ, List.getElem?_cons_zero, 
    List.set_cons_succ, List.set_cons_zero, List.length_cons, List.length_nil, List.length_map, Nat.reduceAdd, Nat.reduceLT, Int.reduceLT, Int.reduceMul, 
    Int.reduceAdd, Int.reduceSub, Int.reduceNeg, Int.reduceLE, Int.reduceToNat, Nat.reducePow, Int.reducePow, Option.bind_some, bin_pow, bin_add_t, bin_add_l, 
    bin_add_s, sl_t, sl_l, isOwL_t, atI2, atI2i, isOw_t, and_self, true_and, and_true, if_true, if_false, Bool.false_eq_true, decide_true, decide_false, 
    decide_eq_true_eq, Option.map_some, Bool.or_true, Bool.true_and, Bool.and_true, Bool.false_or, Bool.or_false, Bool.false_and, Bool.and_false, Bool.true_or, 
    Bool.or_self, Bool.and_self, seqO_nx, seqO_rt, seqO_er, evSv_r, evSv_l, items_l, items_t, evS_l, evS_r, callK_ok, callK_b0, callK_b1, callK_b2, callK_b3, 
    callK_b4, eq_self, Int.toNat_natCast, isi_none_tuple_list, isi_none_tuple, isi_none_list, isi_none_str, isi_none_int, isi_none_bool, isi_none_dict, 
    isi_bool_tuple_list, isi_bool_tuple, isi_bool_list, isi_bool_str, isi_bool_int, isi_bool_bool, isi_bool_dict, isi_int_tuple_list, isi_int_tuple, isi_int_list, 
    isi_int_str, isi_int_int, isi_int_bool, isi_int_dict, isi_str_tuple_list, isi_str_tuple, isi_str_list, isi_str_str, isi_str_int, isi_str_bool, isi_str_dict, 
    isi_list_tuple_list, isi_list_tuple, isi_list_list, isi_list_str, isi_list_int, isi_list_bool, isi_list_dict, isi_tuple_tuple_list, isi_tuple_tuple, 
    isi_tuple_list, isi_tuple_str, isi_tuple_int, isi_tuple_bool, isi_tuple_dict, isi_dict_tuple_list, isi_dict_tuple, isi_dict_list, isi_dict_str, isi_dict_int, 
    isi_dict_bool, isi_dict_dict, cmp_nei, cmp_neb, cmp_eqb, cmp_isb, cmp_isnb, cmp_in_d, cmp_nin_d, ix_d, bf_all_l, Int.cast_ofNat_Int, Int.ofNat_zero, 
    Int.ofNat_one, Int.reduceEq, Int.reduceNe, Nat.reduceEqDiff, not_true_eq_false, not_false_eq_true, Bool.not_true, Bool.not_false, Bool.not_not, 
    Option.isSome_some, Option.isSome_none, Bool.not_eq_true, Bool.and_eq_true, Bool.or_eq_true, Bool.not_eq_false, putAll_nil, putAll_cons, hideE, evC_so, cmp_nn, 
    cmp_en, bf_sorted, evSt_tl, evTl_set, evTl_tst, evTl_wrk, loE_cons, loE_nil, loS_no, loS_sh, loS_ow, oldFree_nil, oldFree_no, oldFree_sh, oldFree_ow, ne_eq, 
    evE_neg, bf_min, evE_g, at_last, cut_init, evO_so, cmp_isnot, evSt_mat, evCs_nil, putB_nil, bf_max_l, mu_sp_is_number, n_sp_is_number, kd_sp_is_number, 
    mu_sp_thing_of, n_sp_thing_of, kd_sp_thing_of, mu_sp_is_box, n_sp_is_box, kd_sp_is_box, mu_sp_is_function, n_sp_is_function, kd_sp_is_function, mu_sp_new_number, 
    n_sp_new_number, kd_sp_new_number, mu_sp_spoken, n_sp_spoken, kd_sp_spoken, mu_sp_reckoned, n_sp_reckoned, kd_sp_reckoned, mu_sp_lacks_own, n_sp_lacks_own, 
    kd_sp_lacks_own, mu_sp_is_wrong_kind, n_sp_is_wrong_kind, kd_sp_is_wrong_kind, mu_sp_is_too_great, n_sp_is_too_great, kd_sp_is_too_great, mu_sp_is_full, 
    n_sp_is_full, kd_sp_is_full, mu_sp_stuck_word, n_sp_stuck_word, kd_sp_stuck_word, mu_sp_push, n_sp_push, kd_sp_push, mu_sp_keep, n_sp_keep, kd_sp_keep, 
    mu_sp_push_new, n_sp_push_new, kd_sp_push_new, mu_sp_go, n_sp_go, kd_sp_go, mu_sp_own_values, n_sp_own_values, kd_sp_own_values, mu_sp_do_instruction, 
    n_sp_do_instruction, kd_sp_do_instruction, mu_sp_stepped, n_sp_stepped, kd_sp_stepped, mu_sp__law_cell, n_sp__law_cell, kd_sp__law_cell, mu_sp__law_raw, 
    n_sp__law_raw, kd_sp__law_raw, mu_sp__law_whole, n_sp__law_whole, kd_sp__law_whole, mu_sp__law_number, n_sp__law_number, kd_sp__law_number, mu_sp__law_value, 
    n_sp__law_value, kd_sp__law_value, mu_sp__law_values, n_sp__law_values, kd_sp__law_values, mu_sp__law_names, n_sp__law_names, kd_sp__law_names, 
    mu_sp__law_things, n_sp__law_things, kd_sp__law_things, mu_sp__law_frame, n_sp__law_frame, kd_sp__law_frame, mu_sp__law_frames, n_sp__law_frames, 
    kd_sp__law_frames, mu_sp__law_row, n_sp__law_row, kd_sp__law_row, mu_sp__law_program, n_sp__law_program, kd_sp__law_program, mu_sp__law_state, n_sp__law_state, 
    kd_sp__law_state, mu_sp__law_topped, n_sp__law_topped, kd_sp__law_topped, mu_sp__law_same_things, n_sp__law_same_things, kd_sp__law_same_things, 
    mu_sp__law_same_state, n_sp__law_same_state, kd_sp__law_same_state, mu_sp__law_copy, n_sp__law_copy, kd_sp__law_copy, mu_sp__law_is_box, n_sp__law_is_box, 
    kd_sp__law_is_box, mu_sp__law_due, n_sp__law_due, kd_sp__law_due, mu_sp_law, n_sp_law, kd_sp_law, mu_sp__law_alike, n_sp__law_alike, kd_sp__law_alike, noMut_st, 
    kd_popped_by, mu_popped_by, n_popped_by, $ls,*])
local macro_rules | `(tactic| simp!) => `(tactic| simp only [lit_inj, shaped_lit, small_lit, len_lit, String.reduceEq, Nat.reduceLeDiff, upK_t, upK_f, noMutI_l, noMutI_d, evE_call, evE_v, evE_k, evE_dnew, evE_tup, evE_lst, 
    evE_bin, evE_cmp, evE_ch, evE_and, evE_or, andK_ok, orK_ok, evE_not, evE_ife, evE_bf, evE_isi, evE_ix, evE_sl, evE_vals, evE_me, evL_nil, evL_cons, evBL_nil, 
    evBL_cons, evO_no, evO_k, evT_def, evB_def, evSt_set, evSt_ife, evSt_ret, evSt_frz, evSt_app, evSt_sti, evSt_unp, retE_v, retE_k, retE_tup, retE_lst, retE_bin, 
    retE_cmp, retE_ch, retE_and, retE_or, retE_not, retE_ife, retE_call, retE_bf, retE_isi, retE_ix, retE_sl, retE_lc, brw_v, brw_k, brw_g, brw_neg, brw_tup, 
    brw_lst, brw_bin, brw_cmp, brw_ch, brw_and, brw_or, brw_not, brw_ife, brw_call, brw_bf, brw_isi, brw_ix, brw_sl, brw_lc, brw_vals, brw_ge, brw_dnew, brw_me, 
    bd_ok, bd_ok', exO_ok, exO_ok', lift_some, slotV_sh, slotB_sh, slotB_ow, toB_ok, toB_ok', ok_def, sc, callR_ok, bin_add, bin_sub, bin_mul, bin_div, bin_mod, 
    bf_len_l, bf_len_t, bf_len_d, bf_list_l, bf_list_t, bf_list_d, bf_tuple_l, bf_dict_d, bf_max, bf_int_b, cmp_gt, cmp_lt, cmp_le, cmp_ge, cmp_eqi, cmp_eqs, 
    cmp_nes, cmp_is, ix_l, ix_t, trE_ok, truthE, mul_l, mul_r, putS, mutOld_no, mutOld_sh, mutOld_ow, slotOf_t, slotOf_f, frzE, stiE, appE, keyOf_int0, isSc_int, 
    isSc_str, isSc_none, isSc_bool, noMut_int, noMut_str, noMut_none, noMut_bool, noMut_list, noMut_dict, List.getElem?_cons_succ, List.getElem?_cons_zero, 
    List.set_cons_succ, List.set_cons_zero, List.length_cons, List.length_nil, List.length_map, Nat.reduceAdd, Nat.reduceLT, Int.reduceLT, Int.reduceMul, 
    Int.reduceAdd, Int.reduceSub, Int.reduceNeg, Int.reduceLE, Int.reduceToNat, Nat.reducePow, Int.reducePow, Option.bind_some, bin_pow, bin_add_t, bin_add_l, 
    bin_add_s, sl_t, sl_l, isOwL_t, atI2, atI2i, isOw_t, and_self, true_and, and_true, if_true, if_false, Bool.false_eq_true, decide_true, decide_false, 
    decide_eq_true_eq, Option.map_some, Bool.or_true, Bool.true_and, Bool.and_true, Bool.false_or, Bool.or_false, Bool.false_and, Bool.and_false, Bool.true_or, 
    Bool.or_self, Bool.and_self, seqO_nx, seqO_rt, seqO_er, evSv_r, evSv_l, items_l, items_t, evS_l, evS_r, callK_ok, callK_b0, callK_b1, callK_b2, callK_b3, 
    callK_b4, eq_self, Int.toNat_natCast, isi_none_tuple_list, isi_none_tuple, isi_none_list, isi_none_str, isi_none_int, isi_none_bool, isi_none_dict, 
    isi_bool_tuple_list, isi_bool_tuple, isi_bool_list, isi_bool_str, isi_bool_int, isi_bool_bool, isi_bool_dict, isi_int_tuple_list, isi_int_tuple, isi_int_list, 
    isi_int_str, isi_int_int, isi_int_bool, isi_int_dict, isi_str_tuple_list, isi_str_tuple, isi_str_list, isi_str_str, isi_str_int, isi_str_bool, isi_str_dict, 
    isi_list_tuple_list, isi_list_tuple, isi_list_list, isi_list_str, isi_list_int, isi_list_bool, isi_list_dict, isi_tuple_tuple_list, isi_tuple_tuple, 
    isi_tuple_list, isi_tuple_str, isi_tuple_int, isi_tuple_bool, isi_tuple_dict, isi_dict_tuple_list, isi_dict_tuple, isi_dict_list, isi_dict_str, isi_dict_int, 
    isi_dict_bool, isi_dict_dict, cmp_nei, cmp_neb, cmp_eqb, cmp_isb, cmp_isnb, cmp_in_d, cmp_nin_d, ix_d, bf_all_l, Int.cast_ofNat_Int, Int.ofNat_zero, 
    Int.ofNat_one, Int.reduceEq, Int.reduceNe, Nat.reduceEqDiff, not_true_eq_false, not_false_eq_true, Bool.not_true, Bool.not_false, Bool.not_not, 
    Option.isSome_some, Option.isSome_none, Bool.not_eq_true, Bool.and_eq_true, Bool.or_eq_true, Bool.not_eq_false, putAll_nil, putAll_cons, hideE, evC_so, cmp_nn, 
    cmp_en, bf_sorted, evSt_tl, evTl_set, evTl_tst, evTl_wrk, loE_cons, loE_nil, loS_no, loS_sh, loS_ow, oldFree_nil, oldFree_no, oldFree_sh, oldFree_ow, ne_eq, 
    evE_neg, bf_min, evE_g, at_last, cut_init, evO_so, cmp_isnot, evSt_mat, evCs_nil, putB_nil, bf_max_l, mu_sp_is_number, n_sp_is_number, kd_sp_is_number, 
    mu_sp_thing_of, n_sp_thing_of, kd_sp_thing_of, mu_sp_is_box, n_sp_is_box, kd_sp_is_box, mu_sp_is_function, n_sp_is_function, kd_sp_is_function, mu_sp_new_number, 
    n_sp_new_number, kd_sp_new_number, mu_sp_spoken, n_sp_spoken, kd_sp_spoken, mu_sp_reckoned, n_sp_reckoned, kd_sp_reckoned, mu_sp_lacks_own, n_sp_lacks_own, 
    kd_sp_lacks_own, mu_sp_is_wrong_kind, n_sp_is_wrong_kind, kd_sp_is_wrong_kind, mu_sp_is_too_great, n_sp_is_too_great, kd_sp_is_too_great, mu_sp_is_full, 
    n_sp_is_full, kd_sp_is_full, mu_sp_stuck_word, n_sp_stuck_word, kd_sp_stuck_word, mu_sp_push, n_sp_push, kd_sp_push, mu_sp_keep, n_sp_keep, kd_sp_keep, 
    mu_sp_push_new, n_sp_push_new, kd_sp_push_new, mu_sp_go, n_sp_go, kd_sp_go, mu_sp_own_values, n_sp_own_values, kd_sp_own_values, mu_sp_do_instruction, 
    n_sp_do_instruction, kd_sp_do_instruction, mu_sp_stepped, n_sp_stepped, kd_sp_stepped, mu_sp__law_cell, n_sp__law_cell, kd_sp__law_cell, mu_sp__law_raw, 
    n_sp__law_raw, kd_sp__law_raw, mu_sp__law_whole, n_sp__law_whole, kd_sp__law_whole, mu_sp__law_number, n_sp__law_number, kd_sp__law_number, mu_sp__law_value, 
    n_sp__law_value, kd_sp__law_value, mu_sp__law_values, n_sp__law_values, kd_sp__law_values, mu_sp__law_names, n_sp__law_names, kd_sp__law_names, 
    mu_sp__law_things, n_sp__law_things, kd_sp__law_things, mu_sp__law_frame, n_sp__law_frame, kd_sp__law_frame, mu_sp__law_frames, n_sp__law_frames, 
    kd_sp__law_frames, mu_sp__law_row, n_sp__law_row, kd_sp__law_row, mu_sp__law_program, n_sp__law_program, kd_sp__law_program, mu_sp__law_state, n_sp__law_state, 
    kd_sp__law_state, mu_sp__law_topped, n_sp__law_topped, kd_sp__law_topped, mu_sp__law_same_things, n_sp__law_same_things, kd_sp__law_same_things, 
    mu_sp__law_same_state, n_sp__law_same_state, kd_sp__law_same_state, mu_sp__law_copy, n_sp__law_copy, kd_sp__law_copy, mu_sp__law_is_box, n_sp__law_is_box, 
    kd_sp__law_is_box, mu_sp__law_due, n_sp__law_due, kd_sp__law_due, mu_sp_law, n_sp_law, kd_sp_law, mu_sp__law_alike, n_sp__law_alike, kd_sp__law_alike, noMut_st, 
    kd_popped_by, mu_popped_by, n_popped_by])
/-- a row of one text lacks no own value -/
theorem lacks_one {w : Str} {own : List R.D} (h1 : w ≠ "get") (h2 : w ≠ "fun") : sp_lacks_own.F [.tuple [.str w], .tuple own] = some (.ok (.bool false, [])) := by
  have hk : ∃ ft : R.FT, sp_lacks_own.F [.tuple [.str w], .tuple own] = endD ⟨2, [], ⟨false, false⟩, fun _ => none⟩ (evSl ft b_lacks_own [.sh false (.tuple [.str w]), .sh false (.tuple own), .no, .no, .no]) := ⟨_, un_lacks_own _ _⟩
  obtain ⟨ft, hk⟩ := hk
  rw [hk]
  apply Ends.eq
  unfold b_lacks_own
  have p1 : ptE (.tup [(.lit ["get"]), (.cap 2)]) (.tuple [.str w]) = some none := pt_tup_len (by simp)
  have p2 : ptE (.tup [(.lit ["fun"]), .wild, (.cap 3)]) (.tuple [.str w]) = some none := pt_tup_len (by simp)
  rw [evSl_cons]
  simp! [evCs_no p1, evCs_no p2]
  (rw [evSl_cons]; simp!)
  exact Ends.mk rfl
theorem kind_none {w : Str} {ps : List R.D} {es : List (R.D × R.D)} (h1 : w ∉ (["add", "minus", "times", "less", "unless"] : List Str)) (h2 : w ∉ (["open", "fill"] : List Str)) (h3 : w ∉ (["call"] : List Str)) : sp_is_wrong_kind.F [.str w, .tuple ps, .dict es] = some (.ok (.bool false, [])) := by
  have hk : ∃ ft : R.FT, sp_is_wrong_kind.F [.str w, .tuple ps, .dict es] = endD ⟨3, [], ⟨false, false⟩, fun _ => none⟩ (evSl ft b_is_wrong_kind [.sh false (.str w), .sh false (.tuple ps), .sh false (.dict es), .no]) := ⟨_, un_is_wrong_kind _ _ _⟩
  obtain ⟨ft, hk⟩ := hk
  rw [hk]
  apply Ends.eq
  unfold b_is_wrong_kind
  rw [evSl_cons]
  simp! [evCs_no (pt_one_no h1), evCs_no (pt_one_no h2), evCs_no (pt_one_no h3)]
  (rw [evSl_cons]; simp!)
  exact Ends.mk rfl
theorem kind_box {ns ks : List Int} {nb : Int} {w : Str} {v : R.D} {ps : List R.D} {es : List (R.D × R.D)} (Dm : Dom ns ks nb es) (hv : VD ns v) (h2 : w ∈ (["open", "fill"] : List Str)) : sp_is_wrong_kind.F [.str w, .tuple (v :: ps), .dict es] = some (.ok (.bool (!kindB "box" (thOf es v)), [])) := by
  have hk : ∃ ft : R.FT, ft.fn "is_box" = some sp_is_box ∧ sp_is_wrong_kind.F [.str w, .tuple (v :: ps), .dict es] = endD ⟨3, [], ⟨false, false⟩, fun _ => none⟩ (evSl ft b_is_wrong_kind [.sh false (.str w), .sh false (.tuple (v :: ps)), .sh false (.dict es), .no]) := ⟨_, rfl, un_is_wrong_kind _ _ _⟩
  obtain ⟨ft, f1, hk⟩ := hk
  rw [hk]
  apply Ends.eq
  unfold b_is_wrong_kind
  have h1 : w ∉ (["add", "minus", "times", "less", "unless"] : List Str) := by
    simp only [List.mem_cons, List.not_mem_nil, or_false] at h2
    rcases h2 with rfl | rfl <;> decide
  have a0 : L2.atI (v :: ps) 0 = some v := L2.atI_nat (j := 0) rfl
  rw [evSl_cons]
  simp! [evCs_no (pt_one_no h1), evCs_yes (pt_one_yes h2) putB_nil, f1, a0, is_box_ok Dm hv]
  (rw [evSl_cons]; simp! [f1, a0, is_box_ok Dm hv])
  exact Ends.mk rfl
theorem great_none {w : Str} {ps : List R.D} (h1 : w ∉ (["add", "minus", "times"] : List Str)) : sp_is_too_great.F [.str w, .tuple ps] = some (.ok (.bool false, [])) := by
  have hk : ∃ ft : R.FT, sp_is_too_great.F [.str w, .tuple ps] = endD ⟨2, [], ⟨false, false⟩, fun _ => none⟩ (evSl ft b_is_too_great [.sh false (.str w), .sh false (.tuple ps)]) := ⟨_, un_is_too_great _ _⟩
  obtain ⟨ft, hk⟩ := hk
  rw [hk]
  apply Ends.eq
  unfold b_is_too_great
  have m : memFlat (.str w) ((["add", "minus", "times"] : List Str).map PyData.str) = false := by
    simp only [List.mem_cons, List.not_mem_nil, or_false, not_or] at h1
    have q : ∀ a : Str, ¬ w = a → PyData.eqv (.str a) (.str w) = false := fun a h => decide_eq_false fun z => h z.symm
    simp only [memFlat, List.map_cons, List.map_nil, List.any_cons, List.any_nil, q _ h1.1, q _ h1.2.1, q _ h1.2.2, Bool.or_false]
  have e : ∀ f g : Bool, cmpE .In (f, .str w) (g, .tuple [.str "add", .str "minus", .str "times"]) = some false := fun f g => by
    have := evT_mem (w := w) (ws := ["add", "minus", "times"]) (f := f) (g := g) rfl
    rw [m] at this
    exact this
  (rw [evSl_cons]; simp! [e])
  exact Ends.mk rfl
theorem full_none {w : Str} {fs : List R.D} {b p : Int} {own st : List R.D} (h1 : w ∉ (["num", "get", "fun"] : List Str)) (h2 : w ∉ (["keep"] : List Str)) (h3 : w ∉ (["back"] : List Str)) : sp_is_full.F [.str w, .list (fs ++ [.tuple [.int b, .int p, .tuple own, .tuple st]])] = some (.ok (.bool false, [])) := by
  have hk : ∃ ft : R.FT, sp_is_full.F [.str w, .list (fs ++ [.tuple [.int b, .int p, .tuple own, .tuple st]])] = endD ⟨2, [], ⟨false, false⟩, fun _ => none⟩ (evSl ft b_is_full [.sh false (.str w), .sh false (.list (fs ++ [.tuple [.int b, .int p, .tuple own, .tuple st]])), .no, .no]) := ⟨_, un_is_full _ _⟩
  obtain ⟨ft, hk⟩ := hk
  rw [hk]
  apply Ends.eq
  unfold b_is_full
  have c : cutD [PyData.int b, .int p, .tuple own, .tuple st] (some 2) none = [.tuple own, .tuple st] := rfl
  (rw [evSl_cons]; simp! [at_last, c])
  rw [evSl_cons]
  simp! [evCs_no (pt_one_no h1), evCs_no (pt_one_no h2), evCs_no (pt_one_no h3)]
  (rw [evSl_cons]; simp!)
  exact Ends.mk rfl
end K03RWA
namespace K03RWA
open PySem PySem.Spec PyProof.Rows L2 R
/-- a frame -/
abbrev frm (b p : Int) (own st : List R.D) : R.D := .tuple [.int b, .int p, .tuple own, .tuple st]
local macro_rules | `(tactic| simp! [$ls,*]) => `(tactic| simp only [lit_inj, shaped_lit, small_lit, len_lit, String.reduceEq, Nat.reduceLeDiff, upK_t, upK_f, noMutI_l, noMutI_d, evE_call, evE_v, evE_k, evE_dnew, evE_tup, evE_lst, 
    evE_bin, evE_cmp, evE_ch, evE_and, evE_or, andK_ok, orK_ok, evE_not, evE_ife, evE_bf, evE_isi, evE_ix, evE_sl, evE_vals, evE_me, evL_nil, evL_cons, evBL_nil, 
    evBL_cons, evO_no, evO_k, evT_def, evB_def, evSt_set, evSt_ife, evSt_ret, evSt_frz, evSt_app, evSt_sti, evSt_unp, retE_v, retE_k, retE_tup, retE_lst, retE_bin, 
    retE_cmp, retE_ch, retE_and, retE_or, retE_not, retE_ife, retE_call, retE_bf, retE_isi, retE_ix, retE_sl, retE_lc, brw_v, brw_k, brw_g, brw_neg, brw_tup, 
    brw_lst, brw_bin, brw_cmp, brw_ch, brw_and, brw_or, brw_not, brw_ife, brw_call, brw_bf, brw_isi, brw_ix, brw_sl, brw_lc, brw_vals, brw_ge, brw_dnew, brw_me, 
    bd_ok, bd_ok', exO_ok, exO_ok', lift_some, slotV_sh, slotB_sh, slotB_ow, toB_ok, toB_ok', ok_def, sc, callR_ok, bin_add, bin_sub, bin_mul, bin_div, bin_mod, 
    bf_len_l, bf_len_t, bf_len_d, bf_list_l, bf_list_t, bf_list_d, bf_tuple_l, bf_dict_d, bf_max, bf_int_b, cmp_gt, cmp_lt, cmp_le, cmp_ge, cmp_eqi, cmp_eqs, 
    cmp_nes, cmp_is, ix_l, ix_t, trE_ok, truthE, mul_l, mul_r, putS, mutOld_no, mutOld_sh, mutOld_ow, slotOf_t, slotOf_f, frzE, stiE, appE, keyOf_int0, isSc_int, 
    isSc_str, isSc_none, isSc_bool, noMut_int, noMut_str, noMut_none, noMut_bool, noMut_list, noMut_dict, List.getElem?_cons_succ, List.getElem?_cons_zero, 
    List.set_cons_succ, List.set_cons_zero, List.length_cons, List.length_nil, List.length_map, Nat.reduceAdd, Nat.reduceLT, Int.reduceLT, Int.reduceMul, 
    Int.reduceAdd, Int.reduceSub, Int.reduceNeg, Int.reduceLE, Int.reduceToNat, Nat.reducePow, Int.reducePow, Option.bind_some, bin_pow, bin_add_t, bin_add_l, 
    bin_add_s, sl_t, sl_l, isOwL_t, atI2, atI2i, isOw_t, and_self, true_and, and_true, if_true, if_false, Bool.false_eq_true, decide_true, decide_false, 
    decide_eq_true_eq, Option.map_some, Bool.or_true, Bool.true_and, Bool.and_true, Bool.false_or, Bool.or_false, Bool.false_and, Bool.and_false, Bool.true_or, 
    Bool.or_self, Bool.and_self, seqO_nx, seqO_rt, seqO_er, evSv_r, evSv_l, items_l, items_t, evS_l, evS_r, callK_ok, callK_b0, callK_b1, callK_b2, callK_b3, 
    callK_b4, eq_self, Int.toNat_natCast, isi_none_tuple_list, isi_none_tuple, isi_none_list, isi_none_str, isi_none_int, isi_none_bool, isi_none_dict, 
    isi_bool_tuple_list, isi_bool_tuple, isi_bool_list, isi_bool_str, isi_bool_int, isi_bool_bool, isi_bool_dict, isi_int_tuple_list, isi_int_tuple, isi_int_list, 
    isi_int_str, isi_int_int, isi_int_bool, isi_int_dict, isi_str_tuple_list, isi_str_tuple, isi_str_list, isi_str_str, isi_str_int, isi_str_bool, isi_str_dict, 
    isi_list_tuple_list, isi_list_tuple, isi_list_list, isi_list_str, isi_list_int, isi_list_bool, isi_list_dict, isi_tuple_tuple_list, isi_tuple_tuple, 
    isi_tuple_list, isi_tuple_str, isi_tuple_int, isi_tuple_bool, isi_tuple_dict, isi_dict_tuple_list, isi_dict_tuple, isi_dict_list, isi_dict_str, isi_dict_int, 
    isi_dict_bool, isi_dict_dict, cmp_nei, cmp_neb, cmp_eqb, cmp_isb, cmp_isnb, cmp_in_d, cmp_nin_d, ix_d, bf_all_l, Int.cast_ofNat_Int, Int.ofNat_zero, 
    Int.ofNat_one, Int.reduceEq, Int.reduceNe, Nat.reduceEqDiff, not_true_eq_false, not_false_eq_true, Bool.not_true, Bool.not_false, Bool.not_not, 
    Option.isSome_some, Option.isSome_none, Bool.not_eq_true, Bool.and_eq_true, Bool.or_eq_true, Bool.not_eq_false, putAll_nil, putAll_cons, hideE, evC_so, cmp_nn, 
    cmp_en, bf_sorted, evSt_tl, evTl_set, evTl_tst, evTl_wrk, loE_cons, loE_nil, loS_no, loS_sh, loS_ow, oldFree_nil, oldFree_no, oldFree_sh, oldFree_ow, ne_eq, 
    evE_neg, bf_min, evE_g, at_last, cut_init, evO_so, cmp_isnot, evSt_mat, evCs_nil, putB_nil, bf_max_l, mu_sp_is_number, n_sp_is_number, kd_sp_is_number, 
    mu_sp_thing_of, n_sp_thing_of, kd_sp_thing_of, mu_sp_is_box, n_sp_is_box, kd_sp_is_box, mu_sp_is_function, n_sp_is_function, kd_sp_is_function, mu_sp_new_number, 
    n_sp_new_number, kd_sp_new_number, mu_sp_spoken, n_sp_spoken, kd_sp_spoken, mu_sp_reckoned, n_sp_reckoned, kd_sp_reckoned, mu_sp_lacks_own, n_sp_lacks_own, 
    kd_sp_lacks_own, mu_sp_is_wrong_kind, n_sp_is_wrong_kind, kd_sp_is_wrong_kind, mu_sp_is_too_great, n_sp_is_too_great, kd_sp_is_too_great, mu_sp_is_full, 
    n_sp_is_full, kd_sp_is_full, mu_sp_stuck_word, n_sp_stuck_word, kd_sp_stuck_word, mu_sp_push, n_sp_push, kd_sp_push, mu_sp_keep, n_sp_keep, kd_sp_keep, 
    mu_sp_push_new, n_sp_push_new, kd_sp_push_new, mu_sp_go, n_sp_go, kd_sp_go, mu_sp_own_values, n_sp_own_values, kd_sp_own_values, mu_sp_do_instruction, 
    n_sp_do_instruction, kd_sp_do_instruction, mu_sp_stepped, n_sp_stepped, kd_sp_stepped, mu_sp__law_cell, n_sp__law_cell, kd_sp__law_cell, mu_sp__law_raw, 
    n_sp__law_raw, kd_sp__law_raw, mu_sp__law_whole, n_sp__law_whole, kd_sp__law_whole, mu_sp__law_number, n_sp__law_number, kd_sp__law_number, mu_sp__law_value, 
    n_sp__law_value, kd_sp__law_value, mu_sp__law_values, n_sp__law_values, kd_sp__law_values, mu_sp__law_names, n_sp__law_names, kd_sp__law_names, 
    mu_sp__law_things, n_sp__law_things, kd_sp__law_things, mu_sp__law_frame, n_sp__law_frame, kd_sp__law_frame, mu_sp__law_frames, n_sp__law_frames, 
    kd_sp__law_frames, mu_sp__law_row, n_sp__law_row, kd_sp__law_row, mu_sp__law_program, n_sp__law_program, kd_sp__law_program, mu_sp__law_state, n_sp__law_state, 
    kd_sp__law_state, mu_sp__law_topped, n_sp__law_topped, kd_sp__law_topped, mu_sp__law_same_things, n_sp__law_same_things, kd_sp__law_same_things, 
    mu_sp__law_same_state, n_sp__law_same_state, kd_sp__law_same_state, mu_sp__law_copy, n_sp__law_copy, kd_sp__law_copy, mu_sp__law_is_box, n_sp__law_is_box, 
    kd_sp__law_is_box, mu_sp__law_due, n_sp__law_due, kd_sp__law_due, mu_sp_law, n_sp_law, kd_sp_law, mu_sp__law_alike, n_sp__law_alike, kd_sp__law_alike, noMut_st, 
    kd_popped_by, mu_popped_by, n_popped_by, $ls,*])
local macro_rules | `(tactic| simp!) => `(tactic| simp only [lit_inj, shaped_lit, small_lit, len_lit, String.reduceEq, Nat.reduceLeDiff, upK_t, upK_f, noMutI_l, noMutI_d, evE_call, evE_v, evE_k, evE_dnew, evE_tup, evE_lst, 
    evE_bin, evE_cmp, evE_ch, evE_and, evE_or, andK_ok, orK_ok, evE_not, evE_ife, evE_bf, evE_isi, evE_ix, evE_sl, evE_vals, evE_me, evL_nil, evL_cons, evBL_nil, 
    evBL_cons, evO_no, evO_k, evT_def, evB_def, evSt_set, evSt_ife, evSt_ret, evSt_frz, evSt_app, evSt_sti, evSt_unp, retE_v, retE_k, retE_tup, retE_lst, retE_bin, 
    retE_cmp, retE_ch, retE_and, retE_or, retE_not, retE_ife, retE_call, retE_bf, retE_isi, retE_ix, retE_sl, retE_lc, brw_v, brw_k, brw_g, brw_neg, brw_tup, 
    brw_lst, brw_bin, brw_cmp, brw_ch, brw_and, brw_or, brw_not, brw_ife, brw_call, brw_bf, brw_isi, brw_ix, brw_sl, brw_lc, brw_vals, brw_ge, brw_dnew, brw_me, 
    bd_ok, bd_ok', exO_ok, exO_ok', lift_some, slotV_sh, slotB_sh, slotB_ow, toB_ok, toB_ok', ok_def, sc, callR_ok, bin_add, bin_sub, bin_mul, bin_div, bin_mod, 
    bf_len_l, bf_len_t, bf_len_d, bf_list_l, bf_list_t, bf_list_d, bf_tuple_l, bf_dict_d, bf_max, bf_int_b, cmp_gt, cmp_lt, cmp_le, cmp_ge, cmp_eqi, cmp_eqs, 
    cmp_nes, cmp_is, ix_l, ix_t, trE_ok, truthE, mul_l, mul_r, putS, mutOld_no, mutOld_sh, mutOld_ow, slotOf_t, slotOf_f, frzE, stiE, appE, keyOf_int0, isSc_int, 
    isSc_str, isSc_none, isSc_bool, noMut_int, noMut_str, noMut_none, noMut_bool, noMut_list, noMut_dict, List.getElem?_cons_succ, List.getElem?_cons_zero, 
    List.set_cons_succ, List.set_cons_zero, List.length_cons, List.length_nil, List.length_map, Nat.reduceAdd, Nat.reduceLT, Int.reduceLT, Int.reduceMul, 
    Int.reduceAdd, Int.reduceSub, Int.reduceNeg, Int.reduceLE, Int.reduceToNat, Nat.reducePow, Int.reducePow, Option.bind_some, bin_pow, bin_add_t, bin_add_l, 
    bin_add_s, sl_t, sl_l, isOwL_t, atI2, atI2i, isOw_t, and_self, true_and, and_true, if_true, if_false, Bool.false_eq_true, decide_true, decide_false, 
    decide_eq_true_eq, Option.map_some, Bool.or_true, Bool.true_and, Bool.and_true, Bool.false_or, Bool.or_false, Bool.false_and, Bool.and_false, Bool.true_or, 
    Bool.or_self, Bool.and_self, seqO_nx, seqO_rt, seqO_er, evSv_r, evSv_l, items_l, items_t, evS_l, evS_r, callK_ok, callK_b0, callK_b1, callK_b2, callK_b3, 
    callK_b4, eq_self, Int.toNat_natCast, isi_none_tuple_list, isi_none_tuple, isi_none_list, isi_none_str, isi_none_int, isi_none_bool, isi_none_dict, 
    isi_bool_tuple_list, isi_bool_tuple, isi_bool_list, isi_bool_str, isi_bool_int, isi_bool_bool, isi_bool_dict, isi_int_tuple_list, isi_int_tuple, isi_int_list, 
    isi_int_str, isi_int_int, isi_int_bool, isi_int_dict, isi_str_tuple_list, isi_str_tuple, isi_str_list, isi_str_str, isi_str_int, isi_str_bool, isi_str_dict, 
    isi_list_tuple_list, isi_list_tuple, isi_list_list, isi_list_str, isi_list_int, isi_list_bool, isi_list_dict, isi_tuple_tuple_list, isi_tuple_tuple, 
    isi_tuple_list, isi_tuple_str, isi_tuple_int, isi_tuple_bool, isi_tuple_dict, isi_dict_tuple_list, isi_dict_tuple, isi_dict_list, isi_dict_str, isi_dict_int, 
    isi_dict_bool, isi_dict_dict, cmp_nei, cmp_neb, cmp_eqb, cmp_isb, cmp_isnb, cmp_in_d, cmp_nin_d, ix_d, bf_all_l, Int.cast_ofNat_Int, Int.ofNat_zero, 
    Int.ofNat_one, Int.reduceEq, Int.reduceNe, Nat.reduceEqDiff, not_true_eq_false, not_false_eq_true, Bool.not_true, Bool.not_false, Bool.not_not, 
    Option.isSome_some, Option.isSome_none, Bool.not_eq_true, Bool.and_eq_true, Bool.or_eq_true, Bool.not_eq_false, putAll_nil, putAll_cons, hideE, evC_so, cmp_nn, 
    cmp_en, bf_sorted, evSt_tl, evTl_set, evTl_tst, evTl_wrk, loE_cons, loE_nil, loS_no, loS_sh, loS_ow, oldFree_nil, oldFree_no, oldFree_sh, oldFree_ow, ne_eq, 
    evE_neg, bf_min, evE_g, at_last, cut_init, evO_so, cmp_isnot, evSt_mat, evCs_nil, putB_nil, bf_max_l, mu_sp_is_number, n_sp_is_number, kd_sp_is_number, 
    mu_sp_thing_of, n_sp_thing_of, kd_sp_thing_of, mu_sp_is_box, n_sp_is_box, kd_sp_is_box, mu_sp_is_function, n_sp_is_function, kd_sp_is_function, mu_sp_new_number, 
    n_sp_new_number, kd_sp_new_number, mu_sp_spoken, n_sp_spoken, kd_sp_spoken, mu_sp_reckoned, n_sp_reckoned, kd_sp_reckoned, mu_sp_lacks_own, n_sp_lacks_own, 
    kd_sp_lacks_own, mu_sp_is_wrong_kind, n_sp_is_wrong_kind, kd_sp_is_wrong_kind, mu_sp_is_too_great, n_sp_is_too_great, kd_sp_is_too_great, mu_sp_is_full, 
    n_sp_is_full, kd_sp_is_full, mu_sp_stuck_word, n_sp_stuck_word, kd_sp_stuck_word, mu_sp_push, n_sp_push, kd_sp_push, mu_sp_keep, n_sp_keep, kd_sp_keep, 
    mu_sp_push_new, n_sp_push_new, kd_sp_push_new, mu_sp_go, n_sp_go, kd_sp_go, mu_sp_own_values, n_sp_own_values, kd_sp_own_values, mu_sp_do_instruction, 
    n_sp_do_instruction, kd_sp_do_instruction, mu_sp_stepped, n_sp_stepped, kd_sp_stepped, mu_sp__law_cell, n_sp__law_cell, kd_sp__law_cell, mu_sp__law_raw, 
    n_sp__law_raw, kd_sp__law_raw, mu_sp__law_whole, n_sp__law_whole, kd_sp__law_whole, mu_sp__law_number, n_sp__law_number, kd_sp__law_number, mu_sp__law_value, 
    n_sp__law_value, kd_sp__law_value, mu_sp__law_values, n_sp__law_values, kd_sp__law_values, mu_sp__law_names, n_sp__law_names, kd_sp__law_names, 
    mu_sp__law_things, n_sp__law_things, kd_sp__law_things, mu_sp__law_frame, n_sp__law_frame, kd_sp__law_frame, mu_sp__law_frames, n_sp__law_frames, 
    kd_sp__law_frames, mu_sp__law_row, n_sp__law_row, kd_sp__law_row, mu_sp__law_program, n_sp__law_program, kd_sp__law_program, mu_sp__law_state, n_sp__law_state, 
    kd_sp__law_state, mu_sp__law_topped, n_sp__law_topped, kd_sp__law_topped, mu_sp__law_same_things, n_sp__law_same_things, kd_sp__law_same_things, 
    mu_sp__law_same_state, n_sp__law_same_state, kd_sp__law_same_state, mu_sp__law_copy, n_sp__law_copy, kd_sp__law_copy, mu_sp__law_is_box, n_sp__law_is_box, 
    kd_sp__law_is_box, mu_sp__law_due, n_sp__law_due, kd_sp__law_due, mu_sp_law, n_sp_law, kd_sp_law, mu_sp__law_alike, n_sp__law_alike, kd_sp__law_alike, noMut_st, 
    kd_popped_by, mu_popped_by, n_popped_by])
theorem push_ok {fs : List R.D} {b p : Int} {own st : List R.D} {v : R.D} (hl : lenOk (st.length + 1) = true) : sp_push.F [.list (fs ++ [frm b p own st]), v] = some (.ok (.none, [.list (fs ++ [frm b p own (st ++ [v])])])) := by
  have hk : ∃ ft : R.FT, sp_push.F [.list (fs ++ [frm b p own st]), v] = endD ⟨2, [0], ⟨false, false⟩, fun _ => none⟩ (evSl ft b_push [.ow false false (.list (fs ++ [frm b p own st])), .sh false v, .no, .no, .no, .no]) := ⟨_, un_push _ _⟩
  obtain ⟨ft, hk⟩ := hk
  rw [hk]
  unfold b_push
  (rw [evSl_cons]; simp! [at_last])
  (rw [evSl_cons]; simp! [at_last, hl, len_last, ixN_last, set_last])
  rfl
theorem push_new_ok {ks : List Int} {es : List (R.D × R.D)} (h : es.map (·.1) = ks.map PyData.int) {fs : List R.D} {b p : Int} {own st : List R.D} {t : R.D} (hl : lenOk (st.length + 1) = true) (hm : noMutA (fs ++ [frm b p own (st ++ [.tuple [.str "at", .int (newN ks)]])]) = true) (hle : lenOk es.length = true) :
    sp_push_new.F [.list (fs ++ [frm b p own st]), .dict es, t] = some (.ok (.none, [.list (fs ++ [frm b p own (st ++ [.tuple [.str "at", .int (newN ks)]])]), .dict (dputE es (.inl (newN ks)) t)])) := by
  have hk : ∃ ft : R.FT, ft.fn "new_number" = some sp_new_number ∧ ft.fn "push" = some sp_push ∧ sp_push_new.F [.list (fs ++ [frm b p own st]), .dict es, t] = endD ⟨3, [0, 1], ⟨false, false⟩, fun _ => none⟩ (evSl ft b_push_new [.ow false false (.list (fs ++ [frm b p own st])), .ow false false (.dict es), .sh false t, .no]) := ⟨_, rfl, rfl, un_push_new _ _ _⟩
  obtain ⟨ft, f1, f2, hk⟩ := hk
  rw [hk]
  unfold b_push_new
  (rw [evSl_cons]; simp! [f1, new_number_ok h])
  (rw [evSl_cons]; simp! [hle])
  rw [evSl_cons, mc_drop (js := [0]) (ds := [.list (fs ++ [frm b p own st]), .tuple [.str "at", .int (newN ks)]]) f2 rfl rfl ⟨rfl, by decide, rfl⟩ (push_ok hl) rfl]
  rfl
theorem do_box {ks : List Int} {es : List (R.D × R.D)} (h : es.map (·.1) = ks.map PyData.int) {fs : List R.D} {b p : Int} {own st : List R.D} {v : R.D} (hl : lenOk (st.length + 1) = true) (hm : noMutA (fs ++ [frm b p own (st ++ [.tuple [.str "at", .int (newN ks)]])]) = true) (hle : lenOk es.length = true) :
    sp_do_instruction.F [.tuple [.str "box"], .tuple [v], .list (fs ++ [frm b p own st]), .dict es] = some (.ok (.none, [.list (fs ++ [frm b p own (st ++ [.tuple [.str "at", .int (newN ks)]])]), .dict (dputE es (.inl (newN ks)) (.tuple [.str "box", v]))])) := by
  have hk : ∃ ft : R.FT, ft.fn "push_new" = some sp_push_new ∧ sp_do_instruction.F [.tuple [.str "box"], .tuple [v], .list (fs ++ [frm b p own st]), .dict es] = endD ⟨4, [2, 3], ⟨false, false⟩, fun _ => none⟩ (evSl ft b_do_instruction [.sh false (.tuple [.str "box"]), .sh false (.tuple [v]), .ow false false (.list (fs ++ [frm b p own st])), .ow false false (.dict es), .no, .no, .no, .no, .no, .no, .no, .no]) := ⟨_, rfl, un_do_instruction _ _ _ _⟩
  obtain ⟨ft, f2, hk⟩ := hk
  rw [hk]
  unfold b_do_instruction
  have p1 : ptE (.tup [(.lit ["num"]), (.cap 4)]) (.tuple [.str "box"]) = some none := pt_tup_len (by simp)
  have p2 : ptE (.tup [(.lit ["get"]), (.cap 5)]) (.tuple [.str "box"]) = some none := pt_tup_len (by simp)
  have p3 : ptE (.tup [(.lit ["keep"])]) (.tuple [.str "box"]) = some none := pt_one1_no (by decide)
  have p4 : ptE (.tup [(.lit ["add", "minus", "times", "less", "same"])]) (.tuple [.str "box"]) = some none := pt_one1_no (by decide)
  have p5 : ptE (.tup [(.lit ["box"])]) (.tuple [.str "box"]) = some (some []) := pt_one1_yes (by decide)
  rw [evSl_cons, evSt_mat]
  simp!
  rw [evCs_no p1, evCs_no p2, evCs_no p3, evCs_no p4, evCs_yes p5 putB_nil]
  rw [evSl_cons, mc_drop (js := [2, 3]) (ds := [.list (fs ++ [frm b p own st]), .dict es, .tuple [.str "box", v]]) f2 rfl rfl ⟨rfl, by decide, rfl⟩ (push_new_ok h hl hm hle) rfl]
  rfl
theorem do_open {es : List (R.D × R.D)} {fs : List R.D} {b p n : Int} {own st : List R.D} {u : R.D} (hl : lenOk (st.length + 1) = true) (hg : dgetE es (.inl n) = some (.tuple [.str "box", u])) :
    sp_do_instruction.F [.tuple [.str "open"], .tuple [.tuple [.str "at", .int n]], .list (fs ++ [frm b p own st]), .dict es] = some (.ok (.none, [.list (fs ++ [frm b p own (st ++ [u])]), .dict es])) := by
  have hk : ∃ ft : R.FT, ft.fn "push" = some sp_push ∧ sp_do_instruction.F [.tuple [.str "open"], .tuple [.tuple [.str "at", .int n]], .list (fs ++ [frm b p own st]), .dict es] = endD ⟨4, [2, 3], ⟨false, false⟩, fun _ => none⟩ (evSl ft b_do_instruction [.sh false (.tuple [.str "open"]), .sh false (.tuple [.tuple [.str "at", .int n]]), .ow false false (.list (fs ++ [frm b p own st])), .ow false false (.dict es), .no, .no, .no, .no, .no, .no, .no, .no]) := ⟨_, rfl, un_do_instruction _ _ _ _⟩
  obtain ⟨ft, f2, hk⟩ := hk
  rw [hk]
  unfold b_do_instruction
  have p1 : ptE (.tup [(.lit ["num"]), (.cap 4)]) (.tuple [.str "open"]) = some none := pt_tup_len (by simp)
  have p2 : ptE (.tup [(.lit ["get"]), (.cap 5)]) (.tuple [.str "open"]) = some none := pt_tup_len (by simp)
  have p3 : ptE (.tup [(.lit ["keep"])]) (.tuple [.str "open"]) = some none := pt_one1_no (by decide)
  have p4 : ptE (.tup [(.lit ["add", "minus", "times", "less", "same"])]) (.tuple [.str "open"]) = some none := pt_one1_no (by decide)
  have p5 : ptE (.tup [(.lit ["box"])]) (.tuple [.str "open"]) = some none := pt_one1_no (by decide)
  have p6 : ptE (.tup [(.lit ["open"])]) (.tuple [.str "open"]) = some (some []) := pt_one1_yes (by decide)
  have a0 : ∀ x : R.D, L2.atI [x] 0 = some x := fun _ => rfl
  have a1 : ∀ x y : R.D, L2.atI [x, y] 1 = some y := fun _ _ => rfl
  have e : evE ft (.ix (.ix (.v 3) (.ix (.ix (.v 1) (.k (.int 0))) (.k (.int 1)))) (.k (.int 1))) [.sh false (.tuple [.str "open"]), .sh false (.tuple [.tuple [.str "at", .int n]]), .ow false false (.list (fs ++ [frm b p own st])), .ow false false (.dict es), .no, .no, .no, .no, .no, .no, .no, .no] = some (.ok (⟨false, false⟩, u)) := by
    simp! [a0, a1, hg]
  rw [evSl_cons, evSt_mat]
  simp only [List.getElem?_cons_zero]
  rw [evCs_no p1, evCs_no p2, evCs_no p3, evCs_no p4, evCs_no p5, evCs_yes p6 putB_nil]
  have ha : evMA ft sp_push.mu 0 (.cons (.v 2) (.cons (.ix (.ix (.v 3) (.ix (.ix (.v 1) (.k (.int 0))) (.k (.int 1)))) (.k (.int 1))) .nil)) [.sh false (.tuple [.str "open"]), .sh false (.tuple [.tuple [.str "at", .int n]]), .ow false false (.list (fs ++ [frm b p own st])), .ow false false (.dict es), .no, .no, .no, .no, .no, .no, .no, .no] = some (.ok [.list (fs ++ [frm b p own st]), u]) := by
    show bnd (bnd (evE ft _ _) _) _ = _
    rw [e]
    rfl
  rw [evSl_cons, mc_drop (js := [2]) f2 ha rfl ⟨rfl, by decide, rfl⟩ (push_ok hl) rfl]
  rfl
theorem do_fill {es : List (R.D × R.D)} {fs : List R.D} {n : Int} {u : R.D} (hle : lenOk es.length = true) :
    sp_do_instruction.F [.tuple [.str "fill"], .tuple [.tuple [.str "at", .int n], u], .list fs, .dict es] = some (.ok (.none, [.list fs, .dict (dputE es (.inl n) (.tuple [.str "box", u]))])) := by
  have hk : ∃ ft : R.FT, sp_do_instruction.F [.tuple [.str "fill"], .tuple [.tuple [.str "at", .int n], u], .list fs, .dict es] = endD ⟨4, [2, 3], ⟨false, false⟩, fun _ => none⟩ (evSl ft b_do_instruction [.sh false (.tuple [.str "fill"]), .sh false (.tuple [.tuple [.str "at", .int n], u]), .ow false false (.list fs), .ow false false (.dict es), .no, .no, .no, .no, .no, .no, .no, .no]) := ⟨_, un_do_instruction _ _ _ _⟩
  obtain ⟨ft, hk⟩ := hk
  rw [hk]
  unfold b_do_instruction
  have p1 : ptE (.tup [(.lit ["num"]), (.cap 4)]) (.tuple [.str "fill"]) = some none := pt_tup_len (by simp)
  have p2 : ptE (.tup [(.lit ["get"]), (.cap 5)]) (.tuple [.str "fill"]) = some none := pt_tup_len (by simp)
  have p3 : ptE (.tup [(.lit ["keep"])]) (.tuple [.str "fill"]) = some none := pt_one1_no (by decide)
  have p4 : ptE (.tup [(.lit ["add", "minus", "times", "less", "same"])]) (.tuple [.str "fill"]) = some none := pt_one1_no (by decide)
  have p5 : ptE (.tup [(.lit ["box"])]) (.tuple [.str "fill"]) = some none := pt_one1_no (by decide)
  have p6 : ptE (.tup [(.lit ["open"])]) (.tuple [.str "fill"]) = some none := pt_one1_no (by decide)
  have p7 : ptE (.tup [(.lit ["fill"])]) (.tuple [.str "fill"]) = some (some []) := pt_one1_yes (by decide)
  have a0 : ∀ x y : R.D, L2.atI [x, y] 0 = some x := fun _ _ => rfl
  have a1 : ∀ x y : R.D, L2.atI [x, y] 1 = some y := fun _ _ => rfl
  rw [evSl_cons, evSt_mat]
  simp only [List.getElem?_cons_zero]
  rw [evCs_no p1, evCs_no p2, evCs_no p3, evCs_no p4, evCs_no p5, evCs_no p6, evCs_yes p7 putB_nil]
  (rw [evSl_cons]; simp! [a0, a1, hle])
  rfl
end K03RWA
namespace K03RWA
open PySem PySem.Spec PyProof.Rows L2 R
/-- the word for what hinders a step at an instruction -/
def hindD (w : Str) (n k m : Nat) (lo wk tg fu : Bool) : R.D :=
  if n < k then .str "empty" else if lo = true then .str "own" else if wk = true then .str "kind" else if tg = true then .str "great" else if w = "call" ∧ 60 ≤ m then .str "deep" else if fu = true then .str "full" else .none
local macro_rules | `(tactic| simp! [$ls,*]) => `(tactic| simp only [lit_inj, shaped_lit, small_lit, len_lit, String.reduceEq, Nat.reduceLeDiff, upK_t, upK_f, noMutI_l, noMutI_d, evE_call, evE_v, evE_k, evE_dnew, evE_tup, evE_lst, 
    evE_bin, evE_cmp, evE_ch, evE_and, evE_or, andK_ok, orK_ok, evE_not, evE_ife, evE_bf, evE_isi, evE_ix, evE_sl, evE_vals, evE_me, evL_nil, evL_cons, evBL_nil, 
    evBL_cons, evO_no, evO_k, evT_def, evB_def, evSt_set, evSt_ife, evSt_ret, evSt_frz, evSt_app, evSt_sti, evSt_unp, retE_v, retE_k, retE_tup, retE_lst, retE_bin, 
    retE_cmp, retE_ch, retE_and, retE_or, retE_not, retE_ife, retE_call, retE_bf, retE_isi, retE_ix, retE_sl, retE_lc, brw_v, brw_k, brw_g, brw_neg, brw_tup, 
    brw_lst, brw_bin, brw_cmp, brw_ch, brw_and, brw_or, brw_not, brw_ife, brw_call, brw_bf, brw_isi, brw_ix, brw_sl, brw_lc, brw_vals, brw_ge, brw_dnew, brw_me, 
    bd_ok, bd_ok', exO_ok, exO_ok', lift_some, slotV_sh, slotB_sh, slotB_ow, toB_ok, toB_ok', ok_def, sc, callR_ok, bin_add, bin_sub, bin_mul, bin_div, bin_mod, 
    bf_len_l, bf_len_t, bf_len_d, bf_list_l, bf_list_t, bf_list_d, bf_tuple_l, bf_dict_d, bf_max, bf_int_b, cmp_gt, cmp_lt, cmp_le, cmp_ge, cmp_eqi, cmp_eqs, 
    cmp_nes, cmp_is, ix_l, ix_t, trE_ok, truthE, mul_l, mul_r, putS, mutOld_no, mutOld_sh, mutOld_ow, slotOf_t, slotOf_f, frzE, stiE, appE, keyOf_int0, isSc_int, 
    isSc_str, isSc_none, isSc_bool, noMut_int, noMut_str, noMut_none, noMut_bool, noMut_list, noMut_dict, List.getElem?_cons_succ, List.getElem?_cons_zero, 
    List.set_cons_succ, List.set_cons_zero, List.length_cons, List.length_nil, List.length_map, Nat.reduceAdd, Nat.reduceLT, Int.reduceLT, Int.reduceMul, 
    Int.reduceAdd, Int.reduceSub, Int.reduceNeg, Int.reduceLE, Int.reduceToNat, Nat.reducePow, Int.reducePow, Option.bind_some, bin_pow, bin_add_t, bin_add_l, 
    bin_add_s, sl_t, sl_l, isOwL_t, atI2, atI2i, isOw_t, and_self, true_and, and_true, if_true, if_false, Bool.false_eq_true, decide_true, decide_false, 
    decide_eq_true_eq, Option.map_some, Bool.or_true, Bool.true_and, Bool.and_true, Bool.false_or, Bool.or_false, Bool.false_and, Bool.and_false, Bool.true_or, 
    Bool.or_self, Bool.and_self, seqO_nx, seqO_rt, seqO_er, evSv_r, evSv_l, items_l, items_t, evS_l, evS_r, callK_ok, callK_b0, callK_b1, callK_b2, callK_b3, 
    callK_b4, eq_self, Int.toNat_natCast, isi_none_tuple_list, isi_none_tuple, isi_none_list, isi_none_str, isi_none_int, isi_none_bool, isi_none_dict, 
    isi_bool_tuple_list, isi_bool_tuple, isi_bool_list, isi_bool_str, isi_bool_int, isi_bool_bool, isi_bool_dict, isi_int_tuple_list, isi_int_tuple, isi_int_list, 
    isi_int_str, isi_int_int, isi_int_bool, isi_int_dict, isi_str_tuple_list, isi_str_tuple, isi_str_list, isi_str_str, isi_str_int, isi_str_bool, isi_str_dict, 
    isi_list_tuple_list, isi_list_tuple, isi_list_list, isi_list_str, isi_list_int, isi_list_bool, isi_list_dict, isi_tuple_tuple_list, isi_tuple_tuple, 
    isi_tuple_list, isi_tuple_str, isi_tuple_int, isi_tuple_bool, isi_tuple_dict, isi_dict_tuple_list, isi_dict_tuple, isi_dict_list, isi_dict_str, isi_dict_int, 
    isi_dict_bool, isi_dict_dict, cmp_nei, cmp_neb, cmp_eqb, cmp_isb, cmp_isnb, cmp_in_d, cmp_nin_d, ix_d, bf_all_l, Int.cast_ofNat_Int, Int.ofNat_zero, 
    Int.ofNat_one, Int.reduceEq, Int.reduceNe, Nat.reduceEqDiff, not_true_eq_false, not_false_eq_true, Bool.not_true, Bool.not_false, Bool.not_not, 
    Option.isSome_some, Option.isSome_none, Bool.not_eq_true, Bool.and_eq_true, Bool.or_eq_true, Bool.not_eq_false, putAll_nil, putAll_cons, hideE, evC_so, cmp_nn, 
    cmp_en, bf_sorted, evSt_tl, evTl_set, evTl_tst, evTl_wrk, loE_cons, loE_nil, loS_no, loS_sh, loS_ow, oldFree_nil, oldFree_no, oldFree_sh, oldFree_ow, ne_eq, 
    evE_neg, bf_min, evE_g, at_last, cut_init, evO_so, cmp_isnot, evSt_mat, evCs_nil, putB_nil, bf_max_l, mu_sp_is_number, n_sp_is_number, kd_sp_is_number, 
    mu_sp_thing_of, n_sp_thing_of, kd_sp_thing_of, mu_sp_is_box, n_sp_is_box, kd_sp_is_box, mu_sp_is_function, n_sp_is_function, kd_sp_is_function, mu_sp_new_number, 
    n_sp_new_number, kd_sp_new_number, mu_sp_spoken, n_sp_spoken, kd_sp_spoken, mu_sp_reckoned, n_sp_reckoned, kd_sp_reckoned, mu_sp_lacks_own, n_sp_lacks_own, 
    kd_sp_lacks_own, mu_sp_is_wrong_kind, n_sp_is_wrong_kind, kd_sp_is_wrong_kind, mu_sp_is_too_great, n_sp_is_too_great, kd_sp_is_too_great, mu_sp_is_full, 
    n_sp_is_full, kd_sp_is_full, mu_sp_stuck_word, n_sp_stuck_word, kd_sp_stuck_word, mu_sp_push, n_sp_push, kd_sp_push, mu_sp_keep, n_sp_keep, kd_sp_keep, 
    mu_sp_push_new, n_sp_push_new, kd_sp_push_new, mu_sp_go, n_sp_go, kd_sp_go, mu_sp_own_values, n_sp_own_values, kd_sp_own_values, mu_sp_do_instruction, 
    n_sp_do_instruction, kd_sp_do_instruction, mu_sp_stepped, n_sp_stepped, kd_sp_stepped, mu_sp__law_cell, n_sp__law_cell, kd_sp__law_cell, mu_sp__law_raw, 
    n_sp__law_raw, kd_sp__law_raw, mu_sp__law_whole, n_sp__law_whole, kd_sp__law_whole, mu_sp__law_number, n_sp__law_number, kd_sp__law_number, mu_sp__law_value, 
    n_sp__law_value, kd_sp__law_value, mu_sp__law_values, n_sp__law_values, kd_sp__law_values, mu_sp__law_names, n_sp__law_names, kd_sp__law_names, 
    mu_sp__law_things, n_sp__law_things, kd_sp__law_things, mu_sp__law_frame, n_sp__law_frame, kd_sp__law_frame, mu_sp__law_frames, n_sp__law_frames, 
    kd_sp__law_frames, mu_sp__law_row, n_sp__law_row, kd_sp__law_row, mu_sp__law_program, n_sp__law_program, kd_sp__law_program, mu_sp__law_state, n_sp__law_state, 
    kd_sp__law_state, mu_sp__law_topped, n_sp__law_topped, kd_sp__law_topped, mu_sp__law_same_things, n_sp__law_same_things, kd_sp__law_same_things, 
    mu_sp__law_same_state, n_sp__law_same_state, kd_sp__law_same_state, mu_sp__law_copy, n_sp__law_copy, kd_sp__law_copy, mu_sp__law_is_box, n_sp__law_is_box, 
    kd_sp__law_is_box, mu_sp__law_due, n_sp__law_due, kd_sp__law_due, mu_sp_law, n_sp_law, kd_sp_law, mu_sp__law_alike, n_sp__law_alike, kd_sp__law_alike, noMut_st, 
    kd_popped_by, mu_popped_by, n_popped_by, $ls,*])
local macro_rules | `(tactic| simp!) => `(tactic| simp only [lit_inj, shaped_lit, small_lit, len_lit, String.reduceEq, Nat.reduceLeDiff, upK_t, upK_f, noMutI_l, noMutI_d, evE_call, evE_v, evE_k, evE_dnew, evE_tup, evE_lst, 
    evE_bin, evE_cmp, evE_ch, evE_and, evE_or, andK_ok, orK_ok, evE_not, evE_ife, evE_bf, evE_isi, evE_ix, evE_sl, evE_vals, evE_me, evL_nil, evL_cons, evBL_nil, 
    evBL_cons, evO_no, evO_k, evT_def, evB_def, evSt_set, evSt_ife, evSt_ret, evSt_frz, evSt_app, evSt_sti, evSt_unp, retE_v, retE_k, retE_tup, retE_lst, retE_bin, 
    retE_cmp, retE_ch, retE_and, retE_or, retE_not, retE_ife, retE_call, retE_bf, retE_isi, retE_ix, retE_sl, retE_lc, brw_v, brw_k, brw_g, brw_neg, brw_tup, 
    brw_lst, brw_bin, brw_cmp, brw_ch, brw_and, brw_or, brw_not, brw_ife, brw_call, brw_bf, brw_isi, brw_ix, brw_sl, brw_lc, brw_vals, brw_ge, brw_dnew, brw_me, 
    bd_ok, bd_ok', exO_ok, exO_ok', lift_some, slotV_sh, slotB_sh, slotB_ow, toB_ok, toB_ok', ok_def, sc, callR_ok, bin_add, bin_sub, bin_mul, bin_div, bin_mod, 
    bf_len_l, bf_len_t, bf_len_d, bf_list_l, bf_list_t, bf_list_d, bf_tuple_l, bf_dict_d, bf_max, bf_int_b, cmp_gt, cmp_lt, cmp_le, cmp_ge, cmp_eqi, cmp_eqs, 
    cmp_nes, cmp_is, ix_l, ix_t, trE_ok, truthE, mul_l, mul_r, putS, mutOld_no, mutOld_sh, mutOld_ow, slotOf_t, slotOf_f, frzE, stiE, appE, keyOf_int0, isSc_int, 
    isSc_str, isSc_none, isSc_bool, noMut_int, noMut_str, noMut_none, noMut_bool, noMut_list, noMut_dict, List.getElem?_cons_succ, List.getElem?_cons_zero, 
    List.set_cons_succ, List.set_cons_zero, List.length_cons, List.length_nil, List.length_map, Nat.reduceAdd, Nat.reduceLT, Int.reduceLT, Int.reduceMul, 
    Int.reduceAdd, Int.reduceSub, Int.reduceNeg, Int.reduceLE, Int.reduceToNat, Nat.reducePow, Int.reducePow, Option.bind_some, bin_pow, bin_add_t, bin_add_l, 
    bin_add_s, sl_t, sl_l, isOwL_t, atI2, atI2i, isOw_t, and_self, true_and, and_true, if_true, if_false, Bool.false_eq_true, decide_true, decide_false, 
    decide_eq_true_eq, Option.map_some, Bool.or_true, Bool.true_and, Bool.and_true, Bool.false_or, Bool.or_false, Bool.false_and, Bool.and_false, Bool.true_or, 
    Bool.or_self, Bool.and_self, seqO_nx, seqO_rt, seqO_er, evSv_r, evSv_l, items_l, items_t, evS_l, evS_r, callK_ok, callK_b0, callK_b1, callK_b2, callK_b3, 
    callK_b4, eq_self, Int.toNat_natCast, isi_none_tuple_list, isi_none_tuple, isi_none_list, isi_none_str, isi_none_int, isi_none_bool, isi_none_dict, 
    isi_bool_tuple_list, isi_bool_tuple, isi_bool_list, isi_bool_str, isi_bool_int, isi_bool_bool, isi_bool_dict, isi_int_tuple_list, isi_int_tuple, isi_int_list, 
    isi_int_str, isi_int_int, isi_int_bool, isi_int_dict, isi_str_tuple_list, isi_str_tuple, isi_str_list, isi_str_str, isi_str_int, isi_str_bool, isi_str_dict, 
    isi_list_tuple_list, isi_list_tuple, isi_list_list, isi_list_str, isi_list_int, isi_list_bool, isi_list_dict, isi_tuple_tuple_list, isi_tuple_tuple, 
    isi_tuple_list, isi_tuple_str, isi_tuple_int, isi_tuple_bool, isi_tuple_dict, isi_dict_tuple_list, isi_dict_tuple, isi_dict_list, isi_dict_str, isi_dict_int, 
    isi_dict_bool, isi_dict_dict, cmp_nei, cmp_neb, cmp_eqb, cmp_isb, cmp_isnb, cmp_in_d, cmp_nin_d, ix_d, bf_all_l, Int.cast_ofNat_Int, Int.ofNat_zero, 
    Int.ofNat_one, Int.reduceEq, Int.reduceNe, Nat.reduceEqDiff, not_true_eq_false, not_false_eq_true, Bool.not_true, Bool.not_false, Bool.not_not, 
    Option.isSome_some, Option.isSome_none, Bool.not_eq_true, Bool.and_eq_true, Bool.or_eq_true, Bool.not_eq_false, putAll_nil, putAll_cons, hideE, evC_so, cmp_nn, 
    cmp_en, bf_sorted, evSt_tl, evTl_set, evTl_tst, evTl_wrk, loE_cons, loE_nil, loS_no, loS_sh, loS_ow, oldFree_nil, oldFree_no, oldFree_sh, oldFree_ow, ne_eq, 
    evE_neg, bf_min, evE_g, at_last, cut_init, evO_so, cmp_isnot, evSt_mat, evCs_nil, putB_nil, bf_max_l, mu_sp_is_number, n_sp_is_number, kd_sp_is_number, 
    mu_sp_thing_of, n_sp_thing_of, kd_sp_thing_of, mu_sp_is_box, n_sp_is_box, kd_sp_is_box, mu_sp_is_function, n_sp_is_function, kd_sp_is_function, mu_sp_new_number, 
    n_sp_new_number, kd_sp_new_number, mu_sp_spoken, n_sp_spoken, kd_sp_spoken, mu_sp_reckoned, n_sp_reckoned, kd_sp_reckoned, mu_sp_lacks_own, n_sp_lacks_own, 
    kd_sp_lacks_own, mu_sp_is_wrong_kind, n_sp_is_wrong_kind, kd_sp_is_wrong_kind, mu_sp_is_too_great, n_sp_is_too_great, kd_sp_is_too_great, mu_sp_is_full, 
    n_sp_is_full, kd_sp_is_full, mu_sp_stuck_word, n_sp_stuck_word, kd_sp_stuck_word, mu_sp_push, n_sp_push, kd_sp_push, mu_sp_keep, n_sp_keep, kd_sp_keep, 
    mu_sp_push_new, n_sp_push_new, kd_sp_push_new, mu_sp_go, n_sp_go, kd_sp_go, mu_sp_own_values, n_sp_own_values, kd_sp_own_values, mu_sp_do_instruction, 
    n_sp_do_instruction, kd_sp_do_instruction, mu_sp_stepped, n_sp_stepped, kd_sp_stepped, mu_sp__law_cell, n_sp__law_cell, kd_sp__law_cell, mu_sp__law_raw, 
    n_sp__law_raw, kd_sp__law_raw, mu_sp__law_whole, n_sp__law_whole, kd_sp__law_whole, mu_sp__law_number, n_sp__law_number, kd_sp__law_number, mu_sp__law_value, 
    n_sp__law_value, kd_sp__law_value, mu_sp__law_values, n_sp__law_values, kd_sp__law_values, mu_sp__law_names, n_sp__law_names, kd_sp__law_names, 
    mu_sp__law_things, n_sp__law_things, kd_sp__law_things, mu_sp__law_frame, n_sp__law_frame, kd_sp__law_frame, mu_sp__law_frames, n_sp__law_frames, 
    kd_sp__law_frames, mu_sp__law_row, n_sp__law_row, kd_sp__law_row, mu_sp__law_program, n_sp__law_program, kd_sp__law_program, mu_sp__law_state, n_sp__law_state, 
    kd_sp__law_state, mu_sp__law_topped, n_sp__law_topped, kd_sp__law_topped, mu_sp__law_same_things, n_sp__law_same_things, kd_sp__law_same_things, 
    mu_sp__law_same_state, n_sp__law_same_state, kd_sp__law_same_state, mu_sp__law_copy, n_sp__law_copy, kd_sp__law_copy, mu_sp__law_is_box, n_sp__law_is_box, 
    kd_sp__law_is_box, mu_sp__law_due, n_sp__law_due, kd_sp__law_due, mu_sp_law, n_sp_law, kd_sp_law, mu_sp__law_alike, n_sp__law_alike, kd_sp__law_alike, noMut_st, 
    kd_popped_by, mu_popped_by, n_popped_by])
theorem stuck_gen {bs : List (List R.D)} {fs : List R.D} {es : List (R.D × R.D)} {b pl k : Nat} {own st body r : List R.D} {w : Str} {lo wk tg fu : Bool} (hb : bs[b]? = some body) (hp : body[pl]? = some (.tuple (.str w :: r))) (hw : shapedB (.str w) = true)
    (hk : sp_popped_by.F [.str w] = some (.ok (.int (k : Int), [])))
    (h1 : sp_lacks_own.F [.tuple (.str w :: r), .tuple own] = some (.ok (.bool lo, [])))
    (h2 : k ≤ st.length → lo = false → sp_is_wrong_kind.F [.str w, .tuple (st.drop (st.length - k)), .dict es] = some (.ok (.bool wk, [])))
    (h3 : k ≤ st.length → lo = false → wk = false → sp_is_too_great.F [.str w, .tuple (st.drop (st.length - k))] = some (.ok (.bool tg, [])))
    (h4 : sp_is_full.F [.str w, .list (fs ++ [frm b pl own st])] = some (.ok (.bool fu, []))) :
    sp_stuck_word.F [.list (bs.map .list), .list (fs ++ [frm b pl own st]), .dict es] = some (.ok (hindD w st.length k (fs.length + 1) lo wk tg fu, [])) := by
  have hk0 : ∃ ft : R.FT, ft.fn "popped_by" = some sp_popped_by ∧ ft.fn "lacks_own" = some sp_lacks_own ∧ ft.fn "is_wrong_kind" = some sp_is_wrong_kind ∧ ft.fn "is_too_great" = some sp_is_too_great ∧ ft.fn "is_full" = some sp_is_full ∧ ft.gl "MOST_FRAMES" = some (.int 60) ∧
      sp_stuck_word.F [.list (bs.map .list), .list (fs ++ [frm b pl own st]), .dict es] = endD ⟨3, [], ⟨false, false⟩, fun _ => none⟩ (evSl ft b_stuck_word [.sh false (.list (bs.map .list)), .sh false (.list (fs ++ [frm b pl own st])), .sh false (.dict es), .no, .no, .no, .no, .no, .no, .no, .no]) := ⟨_, rfl, rfl, rfl, rfl, rfl, rfl, un_stuck_word _ _ _⟩
  obtain ⟨ft, f1, f2, f3, f4, f5, g1, hk0⟩ := hk0
  rw [hk0]
  apply Ends.eq
  unfold b_stuck_word
  have hpl : pl < body.length := (List.getElem?_eq_some_iff.mp hp).1
  have hx : L2.atI (bs.map PyData.list) (b : Int) = some (.list body) := L2.atI_nat (by rw [List.getElem?_map, hb]; rfl)
  have hy : L2.atI body (pl : Int) = some (.tuple (.str w :: r)) := L2.atI_nat hp
  have a0 : L2.atI (PyData.str w :: r) 0 = some (.str w) := L2.atI_nat (j := 0) rfl
  have c1 : (decide ((0 : Int) ≤ (pl : Int))) = true := decide_eq_true (by omega)
  have c2 : (decide ((pl : Int) < (body.length : Int))) = true := decide_eq_true (by omega)
  (rw [evSl_cons]; simp! [at_last])
  (rw [evSl_cons]; simp! [hx, c1, c2])
  rw [evSl_nil, seqO_nx]
  (rw [evSl_cons]; simp! [hx, hy])
  (rw [evSl_cons]; simp! [a0])
  (rw [evSl_cons]; simp! [f1, hk])
  rw [evSl_cons]
  simp!
  by_cases q1 : st.length < k
  · have q : ((st.length : Int) - (k : Int) < 0) = True := eq_true (by omega)
    simp! [q, q1]
    (rw [evSl_cons]; simp!)
    exact Ends.mk (by simp [hindD, q1])
  have q1' : k ≤ st.length := by omega
  have q : ((st.length : Int) - (k : Int) < 0) = False := eq_false (by omega)
  simp! [q, q1]
  rw [evSl_nil, seqO_nx]
  rw [evSl_cons]
  simp! [f2, h1]
  cases lo with
  | true =>
    simp!
    (rw [evSl_cons]; simp!)
    exact Ends.mk (by simp [hindD, q1])
  | false =>
  simp!
  rw [evSl_nil, seqO_nx]
  have e0 : (st.length : Int) - (k : Int) = ((st.length - k : Nat) : Int) := by omega
  have ct : cutD st (some ((st.length : Int) - (k : Int))) none = st.drop (st.length - k) := by rw [e0]; exact cut_from
  (rw [evSl_cons]; simp! [evO_so, ct])
  (rw [evSl_cons]; simp!)
  rw [evSl_cons]
  simp! [f3, h2 q1' rfl]
  cases wk with
  | true =>
    simp!
    (rw [evSl_cons]; simp!)
    exact Ends.mk (by simp [hindD, q1])
  | false =>
  simp!
  rw [evSl_nil, seqO_nx]
  rw [evSl_cons]
  simp! [f4, h3 q1' rfl rfl]
  cases tg with
  | true =>
    simp!
    (rw [evSl_cons]; simp!)
    exact Ends.mk (by simp [hindD, q1])
  | false =>
  simp!
  rw [evSl_nil, seqO_nx]
  rw [evSl_cons]
  have sc1 : shapedB (.str "call") = true := by simp!
  have tl : Ends (fun d => d = hindD w st.length k (fs.length + 1) false false false fu) (evSl ft (.cons (.ife (.call "is_full" (.cons (.v 8) (.cons (.v 1) .nil))) (.cons (.ret (.k (.str "full"))) .nil) .nil) (.cons (.ret (.k .none)) .nil)) [.sh false (.list (bs.map .list)), .sh false (.list (fs ++ [frm b pl own st])), .sh false (.dict es), .sh false (.int b), .sh false (.int pl), .sh false (.tuple own), .sh false (.tuple st), .sh false (.tuple (.str w :: r)), .sh (noMut (.tuple (.str w :: r))) (.str w), .sh true (.int ((st.length : Int) - (k : Int))), .sh (noMut (.tuple st)) (.tuple (st.drop (st.length - k)))]) ∨ (w = "call" ∧ 60 ≤ fs.length + 1) := by
    by_cases q5 : w = "call" ∧ 60 ≤ fs.length + 1
    · exact .inr q5
    · left
      rw [evSl_cons]
      simp! [f5, h4]
      cases fu with
      | true =>
        simp!
        (rw [evSl_cons]; simp!)
        exact Ends.mk (by simp only [hindD, q1, q5, if_true, if_false, Bool.false_eq_true])
      | false =>
        simp!
        rw [evSl_nil, seqO_nx]
        (rw [evSl_cons]; simp!)
        exact Ends.mk (by simp only [hindD, q1, q5, if_true, if_false, Bool.false_eq_true])
  simp! [cmp_eqs hw sc1, evE_g, g1, len_last]
  by_cases q2 : w = "call"
  · by_cases q3 : 60 ≤ fs.length + 1
    · have q4 : ((60 : Int) ≤ ((fs.length + 1 : Nat) : Int)) = True := eq_true (by omega)
      simp! [q2, q4]
      (rw [evSl_cons]; simp!)
      exact Ends.mk (by simp [hindD, q1, q2, q3])
    · have q4 : ((60 : Int) ≤ ((fs.length + 1 : Nat) : Int)) = False := eq_false (by omega)
      rcases tl with tl | tl
      · subst q2
        simp! [q4]
        rw [evSl_nil, seqO_nx]
        exact tl
      · exact absurd tl.2 q3
  · rcases tl with tl | tl
    · simp! [q2]
      rw [evSl_nil, seqO_nx]
      exact tl
    · exact absurd tl.1 q2
end K03RWA
namespace K03RWA
open PySem PySem.Spec PyProof.Rows L2 R
local macro_rules | `(tactic| simp! [$ls,*]) => `(tactic| simp only [lit_inj, shaped_lit, small_lit, len_lit, String.reduceEq, Nat.reduceLeDiff, upK_t, upK_f, noMutI_l, noMutI_d, evE_call, evE_v, evE_k, evE_dnew, evE_tup, evE_lst, 
    evE_bin, evE_cmp, evE_ch, evE_and, evE_or, andK_ok, orK_ok, evE_not, evE_ife, evE_bf, evE_isi, evE_ix, evE_sl, evE_vals, evE_me, evL_nil, evL_cons, evBL_nil, 
    evBL_cons, evO_no, evO_k, evT_def, evB_def, evSt_set, evSt_ife, evSt_ret, evSt_frz, evSt_app, evSt_sti, evSt_unp, retE_v, retE_k, retE_tup, retE_lst, retE_bin, 
    retE_cmp, retE_ch, retE_and, retE_or, retE_not, retE_ife, retE_call, retE_bf, retE_isi, retE_ix, retE_sl, retE_lc, brw_v, brw_k, brw_g, brw_neg, brw_tup, 
    brw_lst, brw_bin, brw_cmp, brw_ch, brw_and, brw_or, brw_not, brw_ife, brw_call, brw_bf, brw_isi, brw_ix, brw_sl, brw_lc, brw_vals, brw_ge, brw_dnew, brw_me, 
    bd_ok, bd_ok', exO_ok, exO_ok', lift_some, slotV_sh, slotB_sh, slotB_ow, toB_ok, toB_ok', ok_def, sc, callR_ok, bin_add, bin_sub, bin_mul, bin_div, bin_mod, 
    bf_len_l, bf_len_t, bf_len_d, bf_list_l, bf_list_t, bf_list_d, bf_tuple_l, bf_dict_d, bf_max, bf_int_b, cmp_gt, cmp_lt, cmp_le, cmp_ge, cmp_eqi, cmp_eqs, 
    cmp_nes, cmp_is, ix_l, ix_t, trE_ok, truthE, mul_l, mul_r, putS, mutOld_no, mutOld_sh, mutOld_ow, slotOf_t, slotOf_f, frzE, stiE, appE, keyOf_int0, isSc_int, 
    isSc_str, isSc_none, isSc_bool, noMut_int, noMut_str, noMut_none, noMut_bool, noMut_list, noMut_dict, List.getElem?_cons_succ, List.getElem?_cons_zero, 
    List.set_cons_succ, List.set_cons_zero, List.length_cons, List.length_nil, List.length_map, Nat.reduceAdd, Nat.reduceLT, Int.reduceLT, Int.reduceMul, 
    Int.reduceAdd, Int.reduceSub, Int.reduceNeg, Int.reduceLE, Int.reduceToNat, Nat.reducePow, Int.reducePow, Option.bind_some, bin_pow, bin_add_t, bin_add_l, 
    bin_add_s, sl_t, sl_l, isOwL_t, atI2, atI2i, isOw_t, and_self, true_and, and_true, if_true, if_false, Bool.false_eq_true, decide_true, decide_false, 
    decide_eq_true_eq, Option.map_some, Bool.or_true, Bool.true_and, Bool.and_true, Bool.false_or, Bool.or_false, Bool.false_and, Bool.and_false, Bool.true_or, 
    Bool.or_self, Bool.and_self, seqO_nx, seqO_rt, seqO_er, evSv_r, evSv_l, items_l, items_t, evS_l, evS_r, callK_ok, callK_b0, callK_b1, callK_b2, callK_b3, 
    callK_b4, eq_self, Int.toNat_natCast, isi_none_tuple_list, isi_none_tuple, isi_none_list, isi_none_str, isi_none_int, isi_none_bool, isi_none_dict, 
    isi_bool_tuple_list, isi_bool_tuple, isi_bool_list, isi_bool_str, isi_bool_int, isi_bool_bool, isi_bool_dict, isi_int_tuple_list, isi_int_tuple, isi_int_list, 
    isi_int_str, isi_int_int, isi_int_bool, isi_int_dict, isi_str_tuple_list, isi_str_tuple, isi_str_list, isi_str_str, isi_str_int, isi_str_bool, isi_str_dict, 
    isi_list_tuple_list, isi_list_tuple, isi_list_list, isi_list_str, isi_list_int, isi_list_bool, isi_list_dict, isi_tuple_tuple_list, isi_tuple_tuple, 
    isi_tuple_list, isi_tuple_str, isi_tuple_int, isi_tuple_bool, isi_tuple_dict, isi_dict_tuple_list, isi_dict_tuple, isi_dict_list, isi_dict_str, isi_dict_int, 
    isi_dict_bool, isi_dict_dict, cmp_nei, cmp_neb, cmp_eqb, cmp_isb, cmp_isnb, cmp_in_d, cmp_nin_d, ix_d, bf_all_l, Int.cast_ofNat_Int, Int.ofNat_zero, 
    Int.ofNat_one, Int.reduceEq, Int.reduceNe, Nat.reduceEqDiff, not_true_eq_false, not_false_eq_true, Bool.not_true, Bool.not_false, Bool.not_not, 
    Option.isSome_some, Option.isSome_none, Bool.not_eq_true, Bool.and_eq_true, Bool.or_eq_true, Bool.not_eq_false, putAll_nil, putAll_cons, hideE, evC_so, cmp_nn, 
    cmp_en, bf_sorted, evSt_tl, evTl_set, evTl_tst, evTl_wrk, loE_cons, loE_nil, loS_no, loS_sh, loS_ow, oldFree_nil, oldFree_no, oldFree_sh, oldFree_ow, ne_eq, 
    evE_neg, bf_min, evE_g, at_last, cut_init, evO_so, cmp_isnot, evSt_mat, evCs_nil, putB_nil, bf_max_l, mu_sp_is_number, n_sp_is_number, kd_sp_is_number, 
    mu_sp_thing_of, n_sp_thing_of, kd_sp_thing_of, mu_sp_is_box, n_sp_is_box, kd_sp_is_box, mu_sp_is_function, n_sp_is_function, kd_sp_is_function, mu_sp_new_number, 
    n_sp_new_number, kd_sp_new_number, mu_sp_spoken, n_sp_spoken, kd_sp_spoken, mu_sp_reckoned, n_sp_reckoned, kd_sp_reckoned, mu_sp_lacks_own, n_sp_lacks_own, 
    kd_sp_lacks_own, mu_sp_is_wrong_kind, n_sp_is_wrong_kind, kd_sp_is_wrong_kind, mu_sp_is_too_great, n_sp_is_too_great, kd_sp_is_too_great, mu_sp_is_full, 
    n_sp_is_full, kd_sp_is_full, mu_sp_stuck_word, n_sp_stuck_word, kd_sp_stuck_word, mu_sp_push, n_sp_push, kd_sp_push, mu_sp_keep, n_sp_keep, kd_sp_keep, 
    mu_sp_push_new, n_sp_push_new, kd_sp_push_new, mu_sp_go, n_sp_go, kd_sp_go, mu_sp_own_values, n_sp_own_values, kd_sp_own_values, mu_sp_do_instruction, 
    n_sp_do_instruction, kd_sp_do_instruction, mu_sp_stepped, n_sp_stepped, kd_sp_stepped, mu_sp__law_cell, n_sp__law_cell, kd_sp__law_cell, mu_sp__law_raw, 
    n_sp__law_raw, kd_sp__law_raw, mu_sp__law_whole, n_sp__law_whole, kd_sp__law_whole, mu_sp__law_number, n_sp__law_number, kd_sp__law_number, mu_sp__law_value, 
    n_sp__law_value, kd_sp__law_value, mu_sp__law_values, n_sp__law_values, kd_sp__law_values, mu_sp__law_names, n_sp__law_names, kd_sp__law_names, 
    mu_sp__law_things, n_sp__law_things, kd_sp__law_things, mu_sp__law_frame, n_sp__law_frame, kd_sp__law_frame, mu_sp__law_frames, n_sp__law_frames, 
    kd_sp__law_frames, mu_sp__law_row, n_sp__law_row, kd_sp__law_row, mu_sp__law_program, n_sp__law_program, kd_sp__law_program, mu_sp__law_state, n_sp__law_state, 
    kd_sp__law_state, mu_sp__law_topped, n_sp__law_topped, kd_sp__law_topped, mu_sp__law_same_things, n_sp__law_same_things, kd_sp__law_same_things, 
    mu_sp__law_same_state, n_sp__law_same_state, kd_sp__law_same_state, mu_sp__law_copy, n_sp__law_copy, kd_sp__law_copy, mu_sp__law_is_box, n_sp__law_is_box, 
    kd_sp__law_is_box, mu_sp__law_due, n_sp__law_due, kd_sp__law_due, mu_sp_law, n_sp_law, kd_sp_law, mu_sp__law_alike, n_sp__law_alike, kd_sp__law_alike, noMut_st, 
    kd_popped_by, mu_popped_by, n_popped_by, $ls,*])
local macro_rules | `(tactic| simp!) => `(tactic| simp only [lit_inj, shaped_lit, small_lit, len_lit, String.reduceEq, Nat.reduceLeDiff, upK_t, upK_f, noMutI_l, noMutI_d, evE_call, evE_v, evE_k, evE_dnew, evE_tup, evE_lst, 
    evE_bin, evE_cmp, evE_ch, evE_and, evE_or, andK_ok, orK_ok, evE_not, evE_ife, evE_bf, evE_isi, evE_ix, evE_sl, evE_vals, evE_me, evL_nil, evL_cons, evBL_nil, 
    evBL_cons, evO_no, evO_k, evT_def, evB_def, evSt_set, evSt_ife, evSt_ret, evSt_frz, evSt_app, evSt_sti, evSt_unp, retE_v, retE_k, retE_tup, retE_lst, retE_bin, 
    retE_cmp, retE_ch, retE_and, retE_or, retE_not, retE_ife, retE_call, retE_bf, retE_isi, retE_ix, retE_sl, retE_lc, brw_v, brw_k, brw_g, brw_neg, brw_tup, 
    brw_lst, brw_bin, brw_cmp, brw_ch, brw_and, brw_or, brw_not, brw_ife, brw_call, brw_bf, brw_isi, brw_ix, brw_sl, brw_lc, brw_vals, brw_ge, brw_dnew, brw_me, 
    bd_ok, bd_ok', exO_ok, exO_ok', lift_some, slotV_sh, slotB_sh, slotB_ow, toB_ok, toB_ok', ok_def, sc, callR_ok, bin_add, bin_sub, bin_mul, bin_div, bin_mod, 
    bf_len_l, bf_len_t, bf_len_d, bf_list_l, bf_list_t, bf_list_d, bf_tuple_l, bf_dict_d, bf_max, bf_int_b, cmp_gt, cmp_lt, cmp_le, cmp_ge, cmp_eqi, cmp_eqs, 
    cmp_nes, cmp_is, ix_l, ix_t, trE_ok, truthE, mul_l, mul_r, putS, mutOld_no, mutOld_sh, mutOld_ow, slotOf_t, slotOf_f, frzE, stiE, appE, keyOf_int0, isSc_int, 
    isSc_str, isSc_none, isSc_bool, noMut_int, noMut_str, noMut_none, noMut_bool, noMut_list, noMut_dict, List.getElem?_cons_succ, List.getElem?_cons_zero, 
    List.set_cons_succ, List.set_cons_zero, List.length_cons, List.length_nil, List.length_map, Nat.reduceAdd, Nat.reduceLT, Int.reduceLT, Int.reduceMul, 
    Int.reduceAdd, Int.reduceSub, Int.reduceNeg, Int.reduceLE, Int.reduceToNat, Nat.reducePow, Int.reducePow, Option.bind_some, bin_pow, bin_add_t, bin_add_l, 
    bin_add_s, sl_t, sl_l, isOwL_t, atI2, atI2i, isOw_t, and_self, true_and, and_true, if_true, if_false, Bool.false_eq_true, decide_true, decide_false, 
    decide_eq_true_eq, Option.map_some, Bool.or_true, Bool.true_and, Bool.and_true, Bool.false_or, Bool.or_false, Bool.false_and, Bool.and_false, Bool.true_or, 
    Bool.or_self, Bool.and_self, seqO_nx, seqO_rt, seqO_er, evSv_r, evSv_l, items_l, items_t, evS_l, evS_r, callK_ok, callK_b0, callK_b1, callK_b2, callK_b3, 
    callK_b4, eq_self, Int.toNat_natCast, isi_none_tuple_list, isi_none_tuple, isi_none_list, isi_none_str, isi_none_int, isi_none_bool, isi_none_dict, 
    isi_bool_tuple_list, isi_bool_tuple, isi_bool_list, isi_bool_str, isi_bool_int, isi_bool_bool, isi_bool_dict, isi_int_tuple_list, isi_int_tuple, isi_int_list, 
    isi_int_str, isi_int_int, isi_int_bool, isi_int_dict, isi_str_tuple_list, isi_str_tuple, isi_str_list, isi_str_str, isi_str_int, isi_str_bool, isi_str_dict, 
    isi_list_tuple_list, isi_list_tuple, isi_list_list, isi_list_str, isi_list_int, isi_list_bool, isi_list_dict, isi_tuple_tuple_list, isi_tuple_tuple, 
    isi_tuple_list, isi_tuple_str, isi_tuple_int, isi_tuple_bool, isi_tuple_dict, isi_dict_tuple_list, isi_dict_tuple, isi_dict_list, isi_dict_str, isi_dict_int, 
    isi_dict_bool, isi_dict_dict, cmp_nei, cmp_neb, cmp_eqb, cmp_isb, cmp_isnb, cmp_in_d, cmp_nin_d, ix_d, bf_all_l, Int.cast_ofNat_Int, Int.ofNat_zero, 
    Int.ofNat_one, Int.reduceEq, Int.reduceNe, Nat.reduceEqDiff, not_true_eq_false, not_false_eq_true, Bool.not_true, Bool.not_false, Bool.not_not, 
    Option.isSome_some, Option.isSome_none, Bool.not_eq_true, Bool.and_eq_true, Bool.or_eq_true, Bool.not_eq_false, putAll_nil, putAll_cons, hideE, evC_so, cmp_nn, 
    cmp_en, bf_sorted, evSt_tl, evTl_set, evTl_tst, evTl_wrk, loE_cons, loE_nil, loS_no, loS_sh, loS_ow, oldFree_nil, oldFree_no, oldFree_sh, oldFree_ow, ne_eq, 
    evE_neg, bf_min, evE_g, at_last, cut_init, evO_so, cmp_isnot, evSt_mat, evCs_nil, putB_nil, bf_max_l, mu_sp_is_number, n_sp_is_number, kd_sp_is_number, 
    mu_sp_thing_of, n_sp_thing_of, kd_sp_thing_of, mu_sp_is_box, n_sp_is_box, kd_sp_is_box, mu_sp_is_function, n_sp_is_function, kd_sp_is_function, mu_sp_new_number, 
    n_sp_new_number, kd_sp_new_number, mu_sp_spoken, n_sp_spoken, kd_sp_spoken, mu_sp_reckoned, n_sp_reckoned, kd_sp_reckoned, mu_sp_lacks_own, n_sp_lacks_own, 
    kd_sp_lacks_own, mu_sp_is_wrong_kind, n_sp_is_wrong_kind, kd_sp_is_wrong_kind, mu_sp_is_too_great, n_sp_is_too_great, kd_sp_is_too_great, mu_sp_is_full, 
    n_sp_is_full, kd_sp_is_full, mu_sp_stuck_word, n_sp_stuck_word, kd_sp_stuck_word, mu_sp_push, n_sp_push, kd_sp_push, mu_sp_keep, n_sp_keep, kd_sp_keep, 
    mu_sp_push_new, n_sp_push_new, kd_sp_push_new, mu_sp_go, n_sp_go, kd_sp_go, mu_sp_own_values, n_sp_own_values, kd_sp_own_values, mu_sp_do_instruction, 
    n_sp_do_instruction, kd_sp_do_instruction, mu_sp_stepped, n_sp_stepped, kd_sp_stepped, mu_sp__law_cell, n_sp__law_cell, kd_sp__law_cell, mu_sp__law_raw, 
    n_sp__law_raw, kd_sp__law_raw, mu_sp__law_whole, n_sp__law_whole, kd_sp__law_whole, mu_sp__law_number, n_sp__law_number, kd_sp__law_number, mu_sp__law_value, 
    n_sp__law_value, kd_sp__law_value, mu_sp__law_values, n_sp__law_values, kd_sp__law_values, mu_sp__law_names, n_sp__law_names, kd_sp__law_names, 
    mu_sp__law_things, n_sp__law_things, kd_sp__law_things, mu_sp__law_frame, n_sp__law_frame, kd_sp__law_frame, mu_sp__law_frames, n_sp__law_frames, 
    kd_sp__law_frames, mu_sp__law_row, n_sp__law_row, kd_sp__law_row, mu_sp__law_program, n_sp__law_program, kd_sp__law_program, mu_sp__law_state, n_sp__law_state, 
    kd_sp__law_state, mu_sp__law_topped, n_sp__law_topped, kd_sp__law_topped, mu_sp__law_same_things, n_sp__law_same_things, kd_sp__law_same_things, 
    mu_sp__law_same_state, n_sp__law_same_state, kd_sp__law_same_state, mu_sp__law_copy, n_sp__law_copy, kd_sp__law_copy, mu_sp__law_is_box, n_sp__law_is_box, 
    kd_sp__law_is_box, mu_sp__law_due, n_sp__law_due, kd_sp__law_due, mu_sp_law, n_sp_law, kd_sp_law, mu_sp__law_alike, n_sp__law_alike, kd_sp__law_alike, noMut_st, 
    kd_popped_by, mu_popped_by, n_popped_by])
theorem stepped_stuck {bs : List (List R.D)} {fs : List R.D} {es : List (R.D × R.D)} {x : Str} (hs : sp_stuck_word.F [.list (bs.map .list), .list fs, .dict es] = some (.ok (.str x, []))) (hm : noMutA fs = true) (hm2 : noMutK es = true) :
    sp_stepped.F [.list (bs.map .list), .tuple [.none, .list fs, .dict es]] = some (.ok (.tuple [.tuple [.tuple [.str "stuck", .str x], .list fs, .dict es], .none], [])) := by
  have hk : ∃ ft : R.FT, ft.fn "stuck_word" = some sp_stuck_word ∧ sp_stepped.F [.list (bs.map .list), .tuple [.none, .list fs, .dict es]] = endD ⟨2, [], ⟨false, true⟩, fun _ => none⟩ (evSl ft b_stepped [.sh false (.list (bs.map .list)), .sh false (.tuple [.none, .list fs, .dict es]), .no, .no, .no, .no, .no, .no, .no, .no, .no, .no, .no, .no, .no, .no, .no]) := ⟨_, rfl, un_stepped _ _⟩
  obtain ⟨ft, f1, hk⟩ := hk
  rw [hk]
  apply EndsK.eq
  unfold b_stepped
  (rw [evSl_cons]; simp!)
  (rw [evSl_cons]; simp!)
  rw [evSl_nil, seqO_nx]
  (rw [evSl_cons]; simp! [f1, hs])
  (rw [evSl_cons]; simp!)
  (rw [evSl_cons]; simp! [hm, hm2])
  exact EndsK.fr rfl
theorem stepped_go {bs : List (List R.D)} {fs fs' : List R.D} {es es' : List (R.D × R.D)} {b pl k : Nat} {own st body r : List R.D} {w : Str} {e sd : R.D} (hb : bs[b]? = some body) (hp : body[pl]? = some (.tuple (.str w :: r))) (hw : shapedB (.str w) = true)
    (hk : sp_popped_by.F [.str w] = some (.ok (.int (k : Int), []))) (hkl : k ≤ st.length) (hl : lenOk (fs.length + 1) = true)
    (hs : sp_stuck_word.F [.list (bs.map .list), .list (fs ++ [frm b pl own st]), .dict es] = some (.ok (.none, [])))
    (hd : sp_do_instruction.F [.tuple (.str w :: r), .tuple (st.drop (st.length - k)), .list (fs ++ [frm b (pl + 1) own (st.take (st.length - k))]), .dict es] = some (.ok (.none, [.list fs', .dict es'])))
    (hm : noMutA fs' = true) (hm2 : noMutK es' = true) (hst : noMutA st = true)
    (he : (fs' ≠ [] ∧ e = .none) ∨ (fs' = [] ∧ ∃ v vs, st.drop (st.length - k) = v :: vs ∧ e = .tuple [.str "done", v]))
    (hsd : (w ≠ "say" ∧ sd = .none) ∨ (w = "say" ∧ noMut sd = true ∧ ∃ v vs, st.drop (st.length - k) = v :: vs ∧ sp_spoken.F [v, .dict es] = some (.ok (sd, [])))) :
    sp_stepped.F [.list (bs.map .list), .tuple [.none, .list (fs ++ [frm b pl own st]), .dict es]] = some (.ok (.tuple [.tuple [e, .list fs', .dict es'], sd], [])) := by
  have hk0 : ∃ ft : R.FT, ft.fn "stuck_word" = some sp_stuck_word ∧ ft.fn "popped_by" = some sp_popped_by ∧ ft.fn "do_instruction" = some sp_do_instruction ∧ ft.fn "spoken" = some sp_spoken ∧ sp_stepped.F [.list (bs.map .list), .tuple [.none, .list (fs ++ [frm b pl own st]), .dict es]] = endD ⟨2, [], ⟨false, true⟩, fun _ => none⟩ (evSl ft b_stepped [.sh false (.list (bs.map .list)), .sh false (.tuple [.none, .list (fs ++ [frm b pl own st]), .dict es]), .no, .no, .no, .no, .no, .no, .no, .no, .no, .no, .no, .no, .no, .no, .no]) := ⟨_, rfl, rfl, rfl, rfl, un_stepped _ _⟩
  obtain ⟨ft, f1, f2, f3, f4, hk0⟩ := hk0
  rw [hk0]
  apply EndsK.eq
  unfold b_stepped
  have hx : L2.atI (bs.map PyData.list) (b : Int) = some (.list body) := L2.atI_nat (by rw [List.getElem?_map, hb]; rfl)
  have hy : L2.atI body (pl : Int) = some (.tuple (.str w :: r)) := L2.atI_nat hp
  have a0 : L2.atI (PyData.str w :: r) 0 = some (.str w) := L2.atI_nat (j := 0) rfl
  have e0 : (st.length : Int) - (k : Int) = ((st.length - k : Nat) : Int) := by omega
  have ct : cutD st (some ((st.length : Int) - (k : Int))) none = st.drop (st.length - k) := by rw [e0]; exact cut_from
  have ct2 : cutD st none (some ((st.length : Int) - (k : Int))) = st.take (st.length - k) := by rw [e0]; exact cut_to
  (rw [evSl_cons]; simp!)
  (rw [evSl_cons]; simp!)
  rw [evSl_nil, seqO_nx]
  (rw [evSl_cons]; simp! [f1, hs])
  (rw [evSl_cons]; simp!)
  rw [evSl_nil, seqO_nx]
  (rw [evSl_cons]; simp! [at_last])
  (rw [evSl_cons]; simp! [hx, hy])
  (rw [evSl_cons]; simp! [f2, a0, hk])
  (rw [evSl_cons]; simp! [evO_so, ct])
  (rw [evSl_cons]; simp!)
  (rw [evSl_cons]; simp! [evO_so, evE_neg, cut_init, ct2, hl])
  (rw [evSl_cons]; simp!)
  have b0 : ∀ (v : R.D) (vs : List R.D), L2.atI (v :: vs) 0 = some v := fun v vs => L2.atI_nat (j := 0) rfl
  have sc1 : shapedB (.str "say") = true := by simp!
  rw [evSl_cons, mc_drop (js := [13, 14]) f3 rfl rfl ⟨rfl, by decide, rfl⟩ hd rfl]
  simp only [seqO_nx, List.set_cons_succ, List.set_cons_zero, noMutI_l, noMutI_d, hm, hm2]
  rw [evSl_cons]
  rcases he with ⟨he, rfl⟩ | ⟨he, v, vs, hv, rfl⟩
  · have he2 : fs'.isEmpty = false := by cases fs' with
      | nil => exact absurd rfl he
      | cons _ _ => rfl
    simp! [he2]
    (rw [evSl_cons]; simp!)
    rw [evSl_cons]
    rcases hsd with ⟨q, rfl⟩ | ⟨q, qm, v, vs, hv, q2⟩
    · simp! [a0, cmp_eqs hw sc1, q]
      (rw [evSl_cons]; simp!)
      (rw [evSl_cons]; simp!)
      (rw [evSl_cons]; simp!)
      (rw [evSl_cons]; simp!)
      exact EndsK.fr rfl
    · simp! [a0, cmp_eqs hw sc1, q, f4, hv, b0, q2]
      (rw [evSl_cons]; simp!)
      (rw [evSl_cons]; simp!)
      (rw [evSl_cons]; simp!)
      (rw [evSl_cons]; simp! [qm])
      exact EndsK.fr rfl
  · subst he
    have hst2 : noMut (.tuple st) = true := hst
    simp! [hv, b0, List.isEmpty_nil, hst2]
    (rw [evSl_cons]; simp!)
    rw [evSl_cons]
    rcases hsd with ⟨q, rfl⟩ | ⟨q, qm, v', vs', hv', q2⟩
    · simp! [a0, cmp_eqs hw sc1, q]
      (rw [evSl_cons]; simp!)
      (rw [evSl_cons]; simp!)
      (rw [evSl_cons]; simp!)
      (rw [evSl_cons]; simp!)
      exact EndsK.fr rfl
    · rw [hv] at hv'
      cases hv'
      simp! [a0, cmp_eqs hw sc1, q, f4, hv, b0, q2]
      (rw [evSl_cons]; simp!)
      (rw [evSl_cons]; simp!)
      (rw [evSl_cons]; simp!)
      (rw [evSl_cons]; simp! [qm])
      exact EndsK.fr rfl
end K03RWA
namespace K03RWA
open PySem PySem.Spec PyProof.Rows L2 R
local macro_rules | `(tactic| simp! [$ls,*]) => `(tactic| simp only [lit_inj, shaped_lit, small_lit, len_lit, String.reduceEq, Nat.reduceLeDiff, upK_t, upK_f, noMutI_l, noMutI_d, evE_call, evE_v, evE_k, evE_dnew, evE_tup, evE_lst, 
    evE_bin, evE_cmp, evE_ch, evE_and, evE_or, andK_ok, orK_ok, evE_not, evE_ife, evE_bf, evE_isi, evE_ix, evE_sl, evE_vals, evE_me, evL_nil, evL_cons, evBL_nil, 
    evBL_cons, evO_no, evO_k, evT_def, evB_def, evSt_set, evSt_ife, evSt_ret, evSt_frz, evSt_app, evSt_sti, evSt_unp, retE_v, retE_k, retE_tup, retE_lst, retE_bin, 
    retE_cmp, retE_ch, retE_and, retE_or, retE_not, retE_ife, retE_call, retE_bf, retE_isi, retE_ix, retE_sl, retE_lc, brw_v, brw_k, brw_g, brw_neg, brw_tup, 
    brw_lst, brw_bin, brw_cmp, brw_ch, brw_and, brw_or, brw_not, brw_ife, brw_call, brw_bf, brw_isi, brw_ix, brw_sl, brw_lc, brw_vals, brw_ge, brw_dnew, brw_me, 
    bd_ok, bd_ok', exO_ok, exO_ok', lift_some, slotV_sh, slotB_sh, slotB_ow, toB_ok, toB_ok', ok_def, sc, callR_ok, bin_add, bin_sub, bin_mul, bin_div, bin_mod, 
    bf_len_l, bf_len_t, bf_len_d, bf_list_l, bf_list_t, bf_list_d, bf_tuple_l, bf_dict_d, bf_max, bf_int_b, cmp_gt, cmp_lt, cmp_le, cmp_ge, cmp_eqi, cmp_eqs, 
    cmp_nes, cmp_is, ix_l, ix_t, trE_ok, truthE, mul_l, mul_r, putS, mutOld_no, mutOld_sh, mutOld_ow, slotOf_t, slotOf_f, frzE, stiE, appE, keyOf_int0, isSc_int, 
    isSc_str, isSc_none, isSc_bool, noMut_int, noMut_str, noMut_none, noMut_bool, noMut_list, noMut_dict, List.getElem?_cons_succ, List.getElem?_cons_zero, 
    List.set_cons_succ, List.set_cons_zero, List.length_cons, List.length_nil, List.length_map, Nat.reduceAdd, Nat.reduceLT, Int.reduceLT, Int.reduceMul, 
    Int.reduceAdd, Int.reduceSub, Int.reduceNeg, Int.reduceLE, Int.reduceToNat, Nat.reducePow, Int.reducePow, Option.bind_some, bin_pow, bin_add_t, bin_add_l, 
    bin_add_s, sl_t, sl_l, isOwL_t, atI2, atI2i, isOw_t, and_self, true_and, and_true, if_true, if_false, Bool.false_eq_true, decide_true, decide_false, 
    decide_eq_true_eq, Option.map_some, Bool.or_true, Bool.true_and, Bool.and_true, Bool.false_or, Bool.or_false, Bool.false_and, Bool.and_false, Bool.true_or, 
    Bool.or_self, Bool.and_self, seqO_nx, seqO_rt, seqO_er, evSv_r, evSv_l, items_l, items_t, evS_l, evS_r, callK_ok, callK_b0, callK_b1, callK_b2, callK_b3, 
    callK_b4, eq_self, Int.toNat_natCast, isi_none_tuple_list, isi_none_tuple, isi_none_list, isi_none_str, isi_none_int, isi_none_bool, isi_none_dict, 
    isi_bool_tuple_list, isi_bool_tuple, isi_bool_list, isi_bool_str, isi_bool_int, isi_bool_bool, isi_bool_dict, isi_int_tuple_list, isi_int_tuple, isi_int_list, 
    isi_int_str, isi_int_int, isi_int_bool, isi_int_dict, isi_str_tuple_list, isi_str_tuple, isi_str_list, isi_str_str, isi_str_int, isi_str_bool, isi_str_dict, 
    isi_list_tuple_list, isi_list_tuple, isi_list_list, isi_list_str, isi_list_int, isi_list_bool, isi_list_dict, isi_tuple_tuple_list, isi_tuple_tuple, 
    isi_tuple_list, isi_tuple_str, isi_tuple_int, isi_tuple_bool, isi_tuple_dict, isi_dict_tuple_list, isi_dict_tuple, isi_dict_list, isi_dict_str, isi_dict_int, 
    isi_dict_bool, isi_dict_dict, cmp_nei, cmp_neb, cmp_eqb, cmp_isb, cmp_isnb, cmp_in_d, cmp_nin_d, ix_d, bf_all_l, Int.cast_ofNat_Int, Int.ofNat_zero, 
    Int.ofNat_one, Int.reduceEq, Int.reduceNe, Nat.reduceEqDiff, not_true_eq_false, not_false_eq_true, Bool.not_true, Bool.not_false, Bool.not_not, 
    Option.isSome_some, Option.isSome_none, Bool.not_eq_true, Bool.and_eq_true, Bool.or_eq_true, Bool.not_eq_false, putAll_nil, putAll_cons, hideE, evC_so, cmp_nn, 
    cmp_en, bf_sorted, evSt_tl, evTl_set, evTl_tst, evTl_wrk, loE_cons, loE_nil, loS_no, loS_sh, loS_ow, oldFree_nil, oldFree_no, oldFree_sh, oldFree_ow, ne_eq, 
    evE_neg, bf_min, evE_g, at_last, cut_init, evO_so, cmp_isnot, evSt_mat, evCs_nil, putB_nil, bf_max_l, mu_sp_is_number, n_sp_is_number, kd_sp_is_number, 
    mu_sp_thing_of, n_sp_thing_of, kd_sp_thing_of, mu_sp_is_box, n_sp_is_box, kd_sp_is_box, mu_sp_is_function, n_sp_is_function, kd_sp_is_function, mu_sp_new_number, 
    n_sp_new_number, kd_sp_new_number, mu_sp_spoken, n_sp_spoken, kd_sp_spoken, mu_sp_reckoned, n_sp_reckoned, kd_sp_reckoned, mu_sp_lacks_own, n_sp_lacks_own, 
    kd_sp_lacks_own, mu_sp_is_wrong_kind, n_sp_is_wrong_kind, kd_sp_is_wrong_kind, mu_sp_is_too_great, n_sp_is_too_great, kd_sp_is_too_great, mu_sp_is_full, 
    n_sp_is_full, kd_sp_is_full, mu_sp_stuck_word, n_sp_stuck_word, kd_sp_stuck_word, mu_sp_push, n_sp_push, kd_sp_push, mu_sp_keep, n_sp_keep, kd_sp_keep, 
    mu_sp_push_new, n_sp_push_new, kd_sp_push_new, mu_sp_go, n_sp_go, kd_sp_go, mu_sp_own_values, n_sp_own_values, kd_sp_own_values, mu_sp_do_instruction, 
    n_sp_do_instruction, kd_sp_do_instruction, mu_sp_stepped, n_sp_stepped, kd_sp_stepped, mu_sp__law_cell, n_sp__law_cell, kd_sp__law_cell, mu_sp__law_raw, 
    n_sp__law_raw, kd_sp__law_raw, mu_sp__law_whole, n_sp__law_whole, kd_sp__law_whole, mu_sp__law_number, n_sp__law_number, kd_sp__law_number, mu_sp__law_value, 
    n_sp__law_value, kd_sp__law_value, mu_sp__law_values, n_sp__law_values, kd_sp__law_values, mu_sp__law_names, n_sp__law_names, kd_sp__law_names, 
    mu_sp__law_things, n_sp__law_things, kd_sp__law_things, mu_sp__law_frame, n_sp__law_frame, kd_sp__law_frame, mu_sp__law_frames, n_sp__law_frames, 
    kd_sp__law_frames, mu_sp__law_row, n_sp__law_row, kd_sp__law_row, mu_sp__law_program, n_sp__law_program, kd_sp__law_program, mu_sp__law_state, n_sp__law_state, 
    kd_sp__law_state, mu_sp__law_topped, n_sp__law_topped, kd_sp__law_topped, mu_sp__law_same_things, n_sp__law_same_things, kd_sp__law_same_things, 
    mu_sp__law_same_state, n_sp__law_same_state, kd_sp__law_same_state, mu_sp__law_copy, n_sp__law_copy, kd_sp__law_copy, mu_sp__law_is_box, n_sp__law_is_box, 
    kd_sp__law_is_box, mu_sp__law_due, n_sp__law_due, kd_sp__law_due, mu_sp_law, n_sp_law, kd_sp_law, mu_sp__law_alike, n_sp__law_alike, kd_sp__law_alike, noMut_st, 
    kd_popped_by, mu_popped_by, n_popped_by, $ls,*])
local macro_rules | `(tactic| simp!) => `(tactic| simp only [lit_inj, shaped_lit, small_lit, len_lit, String.reduceEq, Nat.reduceLeDiff, upK_t, upK_f, noMutI_l, noMutI_d, evE_call, evE_v, evE_k, evE_dnew, evE_tup, evE_lst, 
    evE_bin, evE_cmp, evE_ch, evE_and, evE_or, andK_ok, orK_ok, evE_not, evE_ife, evE_bf, evE_isi, evE_ix, evE_sl, evE_vals, evE_me, evL_nil, evL_cons, evBL_nil, 
    evBL_cons, evO_no, evO_k, evT_def, evB_def, evSt_set, evSt_ife, evSt_ret, evSt_frz, evSt_app, evSt_sti, evSt_unp, retE_v, retE_k, retE_tup, retE_lst, retE_bin, 
    retE_cmp, retE_ch, retE_and, retE_or, retE_not, retE_ife, retE_call, retE_bf, retE_isi, retE_ix, retE_sl, retE_lc, brw_v, brw_k, brw_g, brw_neg, brw_tup, 
    brw_lst, brw_bin, brw_cmp, brw_ch, brw_and, brw_or, brw_not, brw_ife, brw_call, brw_bf, brw_isi, brw_ix, brw_sl, brw_lc, brw_vals, brw_ge, brw_dnew, brw_me, 
    bd_ok, bd_ok', exO_ok, exO_ok', lift_some, slotV_sh, slotB_sh, slotB_ow, toB_ok, toB_ok', ok_def, sc, callR_ok, bin_add, bin_sub, bin_mul, bin_div, bin_mod, 
    bf_len_l, bf_len_t, bf_len_d, bf_list_l, bf_list_t, bf_list_d, bf_tuple_l, bf_dict_d, bf_max, bf_int_b, cmp_gt, cmp_lt, cmp_le, cmp_ge, cmp_eqi, cmp_eqs, 
    cmp_nes, cmp_is, ix_l, ix_t, trE_ok, truthE, mul_l, mul_r, putS, mutOld_no, mutOld_sh, mutOld_ow, slotOf_t, slotOf_f, frzE, stiE, appE, keyOf_int0, isSc_int, 
    isSc_str, isSc_none, isSc_bool, noMut_int, noMut_str, noMut_none, noMut_bool, noMut_list, noMut_dict, List.getElem?_cons_succ, List.getElem?_cons_zero, 
    List.set_cons_succ, List.set_cons_zero, List.length_cons, List.length_nil, List.length_map, Nat.reduceAdd, Nat.reduceLT, Int.reduceLT, Int.reduceMul, 
    Int.reduceAdd, Int.reduceSub, Int.reduceNeg, Int.reduceLE, Int.reduceToNat, Nat.reducePow, Int.reducePow, Option.bind_some, bin_pow, bin_add_t, bin_add_l, 
    bin_add_s, sl_t, sl_l, isOwL_t, atI2, atI2i, isOw_t, and_self, true_and, and_true, if_true, if_false, Bool.false_eq_true, decide_true, decide_false, 
    decide_eq_true_eq, Option.map_some, Bool.or_true, Bool.true_and, Bool.and_true, Bool.false_or, Bool.or_false, Bool.false_and, Bool.and_false, Bool.true_or, 
    Bool.or_self, Bool.and_self, seqO_nx, seqO_rt, seqO_er, evSv_r, evSv_l, items_l, items_t, evS_l, evS_r, callK_ok, callK_b0, callK_b1, callK_b2, callK_b3, 
    callK_b4, eq_self, Int.toNat_natCast, isi_none_tuple_list, isi_none_tuple, isi_none_list, isi_none_str, isi_none_int, isi_none_bool, isi_none_dict, 
    isi_bool_tuple_list, isi_bool_tuple, isi_bool_list, isi_bool_str, isi_bool_int, isi_bool_bool, isi_bool_dict, isi_int_tuple_list, isi_int_tuple, isi_int_list, 
    isi_int_str, isi_int_int, isi_int_bool, isi_int_dict, isi_str_tuple_list, isi_str_tuple, isi_str_list, isi_str_str, isi_str_int, isi_str_bool, isi_str_dict, 
    isi_list_tuple_list, isi_list_tuple, isi_list_list, isi_list_str, isi_list_int, isi_list_bool, isi_list_dict, isi_tuple_tuple_list, isi_tuple_tuple, 
    isi_tuple_list, isi_tuple_str, isi_tuple_int, isi_tuple_bool, isi_tuple_dict, isi_dict_tuple_list, isi_dict_tuple, isi_dict_list, isi_dict_str, isi_dict_int, 
    isi_dict_bool, isi_dict_dict, cmp_nei, cmp_neb, cmp_eqb, cmp_isb, cmp_isnb, cmp_in_d, cmp_nin_d, ix_d, bf_all_l, Int.cast_ofNat_Int, Int.ofNat_zero, 
    Int.ofNat_one, Int.reduceEq, Int.reduceNe, Nat.reduceEqDiff, not_true_eq_false, not_false_eq_true, Bool.not_true, Bool.not_false, Bool.not_not, 
    Option.isSome_some, Option.isSome_none, Bool.not_eq_true, Bool.and_eq_true, Bool.or_eq_true, Bool.not_eq_false, putAll_nil, putAll_cons, hideE, evC_so, cmp_nn, 
    cmp_en, bf_sorted, evSt_tl, evTl_set, evTl_tst, evTl_wrk, loE_cons, loE_nil, loS_no, loS_sh, loS_ow, oldFree_nil, oldFree_no, oldFree_sh, oldFree_ow, ne_eq, 
    evE_neg, bf_min, evE_g, at_last, cut_init, evO_so, cmp_isnot, evSt_mat, evCs_nil, putB_nil, bf_max_l, mu_sp_is_number, n_sp_is_number, kd_sp_is_number, 
    mu_sp_thing_of, n_sp_thing_of, kd_sp_thing_of, mu_sp_is_box, n_sp_is_box, kd_sp_is_box, mu_sp_is_function, n_sp_is_function, kd_sp_is_function, mu_sp_new_number, 
    n_sp_new_number, kd_sp_new_number, mu_sp_spoken, n_sp_spoken, kd_sp_spoken, mu_sp_reckoned, n_sp_reckoned, kd_sp_reckoned, mu_sp_lacks_own, n_sp_lacks_own, 
    kd_sp_lacks_own, mu_sp_is_wrong_kind, n_sp_is_wrong_kind, kd_sp_is_wrong_kind, mu_sp_is_too_great, n_sp_is_too_great, kd_sp_is_too_great, mu_sp_is_full, 
    n_sp_is_full, kd_sp_is_full, mu_sp_stuck_word, n_sp_stuck_word, kd_sp_stuck_word, mu_sp_push, n_sp_push, kd_sp_push, mu_sp_keep, n_sp_keep, kd_sp_keep, 
    mu_sp_push_new, n_sp_push_new, kd_sp_push_new, mu_sp_go, n_sp_go, kd_sp_go, mu_sp_own_values, n_sp_own_values, kd_sp_own_values, mu_sp_do_instruction, 
    n_sp_do_instruction, kd_sp_do_instruction, mu_sp_stepped, n_sp_stepped, kd_sp_stepped, mu_sp__law_cell, n_sp__law_cell, kd_sp__law_cell, mu_sp__law_raw, 
    n_sp__law_raw, kd_sp__law_raw, mu_sp__law_whole, n_sp__law_whole, kd_sp__law_whole, mu_sp__law_number, n_sp__law_number, kd_sp__law_number, mu_sp__law_value, 
    n_sp__law_value, kd_sp__law_value, mu_sp__law_values, n_sp__law_values, kd_sp__law_values, mu_sp__law_names, n_sp__law_names, kd_sp__law_names, 
    mu_sp__law_things, n_sp__law_things, kd_sp__law_things, mu_sp__law_frame, n_sp__law_frame, kd_sp__law_frame, mu_sp__law_frames, n_sp__law_frames, 
    kd_sp__law_frames, mu_sp__law_row, n_sp__law_row, kd_sp__law_row, mu_sp__law_program, n_sp__law_program, kd_sp__law_program, mu_sp__law_state, n_sp__law_state, 
    kd_sp__law_state, mu_sp__law_topped, n_sp__law_topped, kd_sp__law_topped, mu_sp__law_same_things, n_sp__law_same_things, kd_sp__law_same_things, 
    mu_sp__law_same_state, n_sp__law_same_state, kd_sp__law_same_state, mu_sp__law_copy, n_sp__law_copy, kd_sp__law_copy, mu_sp__law_is_box, n_sp__law_is_box, 
    kd_sp__law_is_box, mu_sp__law_due, n_sp__law_due, kd_sp__law_due, mu_sp_law, n_sp_law, kd_sp_law, mu_sp__law_alike, n_sp__law_alike, kd_sp__law_alike, noMut_st, 
    kd_popped_by, mu_popped_by, n_popped_by])
theorem law_is_box_ok {ns ks : List Int} {nb : Int} {es : List (R.D × R.D)} {v : R.D} (Dm : Dom ns ks nb es) (hv : VD ns v) : sp__law_is_box.F [v, .dict es] = some (.ok (.bool (kindB "box" (thOf es v)), [])) := by
  have hk : ∃ ft : R.FT, sp__law_is_box.F [v, .dict es] = endD ⟨2, [], ⟨false, false⟩, fun _ => none⟩ (evSl ft b__law_is_box [.sh false v, .sh false (.dict es)]) := ⟨_, un__law_is_box _ _⟩
  obtain ⟨ft, hk⟩ := hk
  rw [hk]
  apply Ends.eq
  unfold b__law_is_box
  rcases hv with ⟨z, rfl, _⟩ | ⟨n, hn, rfl⟩
  · (rw [evSl_cons]; simp!)
    exact Ends.mk rfl
  · obtain ⟨t, e, ht⟩ := Dm.get hn
    have a1 : L2.atI [PyData.str "at", .int n] 1 = some (.int n) := rfl
    have et : thOf es (.tuple [.str "at", .int n]) = t := by
      show (dgetE es (.inl n)).getD .none = t
      rw [e]; rfl
    rcases ht with ⟨u, hu, rfl⟩ | ⟨b, kk, _, _, _, _, rfl⟩
    · have a0 : L2.atI [PyData.str "box", u] 0 = some (.str "box") := rfl
      (rw [evSl_cons]; simp! [a1, e, a0])
      exact Ends.mk (by rw [et]; rfl)
    · have a0 : L2.atI [PyData.str "fun", .int b, .tuple kk] 0 = some (.str "fun") := rfl
      (rw [evSl_cons]; simp! [a1, e, a0])
      exact Ends.mk (by rw [et]; simp! [kindB])
theorem at_last2 {xs : List R.D} {x y : R.D} : L2.atI (xs ++ [x, y]) (-2) = some x := by
  unfold L2.atI
  have : ixN (xs ++ [x, y]).length (-2) = some xs.length := by
    unfold ixN
    simp
    omega
  rw [this]
  simp
theorem cut_init2 {xs : List R.D} {x y : R.D} : cutD (xs ++ [x, y]) none (some (-2)) = xs := by
  unfold R.cutD
  rw [HT.sIx_none]
  have : HT.sIx (xs ++ [x, y]).length (xs ++ [x, y]).length (some (-2)) = xs.length := by
    show (if (-2 : Int) < 0 then ((-2 : Int) + ((xs ++ [x, y]).length : Int)).toNat else min (-2 : Int).toNat (xs ++ [x, y]).length) = _
    rw [if_pos (by decide), List.length_append]
    simp only [List.length_cons, List.length_nil]
    omega
  rw [this]
  simp
/-- the state that the law asks about, its top frame at w -/
abbrev stD (fs : List R.D) (es : List (R.D × R.D)) (b p : Int) (own st : List R.D) : R.D := .tuple [.none, .list (fs ++ [frm b p own st]), .dict es]
abbrev stuckD (w : Str) (fs : List R.D) (es : List (R.D × R.D)) : R.D := .tuple [.tuple [.tuple [.str "stuck", .str w], .list fs, .dict es], .none]
abbrev goD (fs : List R.D) (es : List (R.D × R.D)) : R.D := .tuple [.tuple [.none, .list fs, .dict es], .none]
theorem due_empty {w : Str} {k : Nat} {fs : List R.D} {es : List (R.D × R.D)} {b p : Int} {own st : List R.D} (hw : (w = "box" ∧ k = 1) ∨ (w = "open" ∧ k = 1) ∨ (w = "fill" ∧ k = 2)) (hl : st.length < k) :
    sp__law_due.F [.tuple [.str w], stD fs es b p own st, frm b p own st] = some (.ok (stuckD "empty" (fs ++ [frm b p own st]) es, [])) := by
  have hk : ∃ ft : R.FT, sp__law_due.F [.tuple [.str w], stD fs es b p own st, frm b p own st] = endD ⟨3, [], ⟨false, false⟩, fun _ => none⟩ (evSl ft b__law_due [.sh false (.tuple [.str w]), .sh false (stD fs es b p own st), .sh false (frm b p own st), .no, .no, .no, .no]) := ⟨_, un__law_due _ _ _⟩
  obtain ⟨ft, hk⟩ := hk
  rw [hk]
  apply Ends.eq
  unfold b__law_due
  have a1 : ∀ x y z : R.D, L2.atI [x, y, z] 1 = some y := fun _ _ _ => rfl
  have a2 : ∀ x y z : R.D, L2.atI [x, y, z] 2 = some z := fun _ _ _ => rfl
  have b3 : ∀ x y z w : R.D, L2.atI [x, y, z, w] 3 = some w := fun _ _ _ _ => rfl
  have c0 : ∀ x : R.D, L2.atI [x] 0 = some x := fun _ => rfl
  have d0 : ∀ x y : R.D, L2.atI [x, y] 0 = some x := fun _ _ => rfl
  have d1 : ∀ x y : R.D, L2.atI [x, y] 1 = some y := fun _ _ => rfl
  (rw [evSl_cons]; simp! [b3])
  rcases hw with ⟨rfl, rfl⟩ | ⟨rfl, rfl⟩ | ⟨rfl, rfl⟩
  · have q : ((st.length : Int) < 1) = True := eq_true (by omega)
    (rw [evSl_cons]; simp! [c0, d0, d1, q])
    (rw [evSl_cons]; simp! [a1, a2])
    exact Ends.mk rfl
  · have q : ((st.length : Int) < 1) = True := eq_true (by omega)
    (rw [evSl_cons]; simp! [c0, d0, d1, q])
    (rw [evSl_cons]; simp! [a1, a2])
    exact Ends.mk rfl
  · have q : ((st.length : Int) < 2) = True := eq_true (by omega)
    (rw [evSl_cons]; simp! [c0, d0, d1, q])
    (rw [evSl_cons]; simp! [a1, a2])
    exact Ends.mk rfl
theorem due_kind_open {fs : List R.D} {es : List (R.D × R.D)} {b p : Int} {own st : List R.D} {v : R.D} (h : sp__law_is_box.F [v, .dict es] = some (.ok (.bool false, []))) :
    sp__law_due.F [.tuple [.str "open"], stD fs es b p own (st ++ [v]), frm b p own (st ++ [v])] = some (.ok (stuckD "kind" (fs ++ [frm b p own (st ++ [v])]) es, [])) := by
  have hk : ∃ ft : R.FT, ft.fn "_law_is_box" = some sp__law_is_box ∧ sp__law_due.F [.tuple [.str "open"], stD fs es b p own (st ++ [v]), frm b p own (st ++ [v])] = endD ⟨3, [], ⟨false, false⟩, fun _ => none⟩ (evSl ft b__law_due [.sh false (.tuple [.str "open"]), .sh false (stD fs es b p own (st ++ [v])), .sh false (frm b p own (st ++ [v])), .no, .no, .no, .no]) := ⟨_, rfl, un__law_due _ _ _⟩
  obtain ⟨ft, f1, hk⟩ := hk
  rw [hk]
  apply Ends.eq
  unfold b__law_due
  have a1 : ∀ x y z : R.D, L2.atI [x, y, z] 1 = some y := fun _ _ _ => rfl
  have a2 : ∀ x y z : R.D, L2.atI [x, y, z] 2 = some z := fun _ _ _ => rfl
  have b0 : ∀ x y z w : R.D, L2.atI [x, y, z, w] 0 = some x := fun _ _ _ _ => rfl
  have b1 : ∀ x y z w : R.D, L2.atI [x, y, z, w] 1 = some y := fun _ _ _ _ => rfl
  have b2 : ∀ x y z w : R.D, L2.atI [x, y, z, w] 2 = some z := fun _ _ _ _ => rfl
  have b3 : ∀ x y z w : R.D, L2.atI [x, y, z, w] 3 = some w := fun _ _ _ _ => rfl
  have c0 : ∀ x : R.D, L2.atI [x] 0 = some x := fun _ => rfl
  have d0 : ∀ x y : R.D, L2.atI [x, y] 0 = some x := fun _ _ => rfl
  have d1 : ∀ x y : R.D, L2.atI [x, y] 1 = some y := fun _ _ => rfl
  (rw [evSl_cons]; simp! [b3])
  have q : (((st ++ [v]).length : Int) < 1) = False := eq_false (by rw [len_last]; omega)
  (rw [evSl_cons]; simp! [c0, d0, d1, q])
  rw [evSl_nil, seqO_nx]
  (rw [evSl_cons]; simp! [c0, evE_neg, at_last, a2, f1, h])
  (rw [evSl_cons]; simp! [a1, a2])
  exact Ends.mk rfl
theorem due_kind_fill {fs : List R.D} {es : List (R.D × R.D)} {b p : Int} {own st : List R.D} {u v : R.D} (h : sp__law_is_box.F [u, .dict es] = some (.ok (.bool false, []))) :
    sp__law_due.F [.tuple [.str "fill"], stD fs es b p own (st ++ [u, v]), frm b p own (st ++ [u, v])] = some (.ok (stuckD "kind" (fs ++ [frm b p own (st ++ [u, v])]) es, [])) := by
  have hk : ∃ ft : R.FT, ft.fn "_law_is_box" = some sp__law_is_box ∧ sp__law_due.F [.tuple [.str "fill"], stD fs es b p own (st ++ [u, v]), frm b p own (st ++ [u, v])] = endD ⟨3, [], ⟨false, false⟩, fun _ => none⟩ (evSl ft b__law_due [.sh false (.tuple [.str "fill"]), .sh false (stD fs es b p own (st ++ [u, v])), .sh false (frm b p own (st ++ [u, v])), .no, .no, .no, .no]) := ⟨_, rfl, un__law_due _ _ _⟩
  obtain ⟨ft, f1, hk⟩ := hk
  rw [hk]
  apply Ends.eq
  unfold b__law_due
  have a1 : ∀ x y z : R.D, L2.atI [x, y, z] 1 = some y := fun _ _ _ => rfl
  have a2 : ∀ x y z : R.D, L2.atI [x, y, z] 2 = some z := fun _ _ _ => rfl
  have b0 : ∀ x y z w : R.D, L2.atI [x, y, z, w] 0 = some x := fun _ _ _ _ => rfl
  have b1 : ∀ x y z w : R.D, L2.atI [x, y, z, w] 1 = some y := fun _ _ _ _ => rfl
  have b2 : ∀ x y z w : R.D, L2.atI [x, y, z, w] 2 = some z := fun _ _ _ _ => rfl
  have b3 : ∀ x y z w : R.D, L2.atI [x, y, z, w] 3 = some w := fun _ _ _ _ => rfl
  have c0 : ∀ x : R.D, L2.atI [x] 0 = some x := fun _ => rfl
  have d0 : ∀ x y : R.D, L2.atI [x, y] 0 = some x := fun _ _ => rfl
  have d1 : ∀ x y : R.D, L2.atI [x, y] 1 = some y := fun _ _ => rfl
  (rw [evSl_cons]; simp! [b3])
  have q : (((st ++ [u, v]).length : Int) < 2) = False := eq_false (by rw [List.length_append]; simp only [List.length_cons, List.length_nil]; omega)
  (rw [evSl_cons]; simp! [c0, d0, d1, q])
  rw [evSl_nil, seqO_nx]
  (rw [evSl_cons]; simp! [c0])
  rw [evSl_nil, seqO_nx]
  (rw [evSl_cons]; simp! [c0, evE_neg, at_last2, a2, f1, h])
  (rw [evSl_cons]; simp! [a1, a2])
  exact Ends.mk rfl
theorem due_open {fs : List R.D} {es : List (R.D × R.D)} {b p : Int} {own st : List R.D} {u : R.D} {n : Int} (h : sp__law_is_box.F [.tuple [.str "at", .int n], .dict es] = some (.ok (.bool true, []))) (hg : dgetE es (.inl n) = some (.tuple [.str "box", u])) (hl : lenOk (st.length + 1) = true) (hl2 : lenOk (fs.length + 1) = true) :
    sp__law_due.F [.tuple [.str "open"], stD fs es b p own (st ++ [.tuple [.str "at", .int n]]), frm b p own (st ++ [.tuple [.str "at", .int n]])] = some (.ok (goD (fs ++ [frm b (p + 1) own (st ++ [u])]) es, [])) := by
  have hk : ∃ ft : R.FT, ft.fn "_law_is_box" = some sp__law_is_box ∧ sp__law_due.F [.tuple [.str "open"], stD fs es b p own (st ++ [.tuple [.str "at", .int n]]), frm b p own (st ++ [.tuple [.str "at", .int n]])] = endD ⟨3, [], ⟨false, false⟩, fun _ => none⟩ (evSl ft b__law_due [.sh false (.tuple [.str "open"]), .sh false (stD fs es b p own (st ++ [.tuple [.str "at", .int n]])), .sh false (frm b p own (st ++ [.tuple [.str "at", .int n]])), .no, .no, .no, .no]) := ⟨_, rfl, un__law_due _ _ _⟩
  obtain ⟨ft, f1, hk⟩ := hk
  rw [hk]
  apply Ends.eq
  unfold b__law_due
  have a1 : ∀ x y z : R.D, L2.atI [x, y, z] 1 = some y := fun _ _ _ => rfl
  have a2 : ∀ x y z : R.D, L2.atI [x, y, z] 2 = some z := fun _ _ _ => rfl
  have b0 : ∀ x y z w : R.D, L2.atI [x, y, z, w] 0 = some x := fun _ _ _ _ => rfl
  have b1 : ∀ x y z w : R.D, L2.atI [x, y, z, w] 1 = some y := fun _ _ _ _ => rfl
  have b2 : ∀ x y z w : R.D, L2.atI [x, y, z, w] 2 = some z := fun _ _ _ _ => rfl
  have b3 : ∀ x y z w : R.D, L2.atI [x, y, z, w] 3 = some w := fun _ _ _ _ => rfl
  have c0 : ∀ x : R.D, L2.atI [x] 0 = some x := fun _ => rfl
  have d0 : ∀ x y : R.D, L2.atI [x, y] 0 = some x := fun _ _ => rfl
  have d1 : ∀ x y : R.D, L2.atI [x, y] 1 = some y := fun _ _ => rfl
  (rw [evSl_cons]; simp! [b3])
  have q : (((st ++ [PyData.tuple [.str "at", .int n]]).length : Int) < 1) = False := eq_false (by rw [len_last]; omega)
  (rw [evSl_cons]; simp! [c0, d0, d1, q])
  rw [evSl_nil, seqO_nx]
  (rw [evSl_cons]; simp! [c0, evE_neg, at_last, a2, f1, h])
  rw [evSl_nil, seqO_nx]
  (rw [evSl_cons]; simp! [c0])
  rw [evSl_nil, seqO_nx]
  (rw [evSl_cons]; simp! [a2])
  rw [evSl_cons]
  simp! [c0]
  rw [evSl_cons]
  simp! [c0]
  (rw [evSl_cons]; simp! [evO_so, evE_neg, cut_init, at_last, d1, hg, hl])
  (rw [evSl_cons]; simp!)
  rw [evSl_nil, seqO_nx]
  rw [evSl_nil, seqO_nx]
  (rw [evSl_cons]; simp!)
  (rw [evSl_cons]; simp! [evO_so, evE_neg, cut_init, a1, b0, b1, b2, hl2])
  exact Ends.mk rfl
theorem due_fill {fs : List R.D} {es : List (R.D × R.D)} {b p : Int} {own st : List R.D} {v : R.D} {n : Int} (h : sp__law_is_box.F [.tuple [.str "at", .int n], .dict es] = some (.ok (.bool true, []))) (hle : lenOk es.length = true) (hl2 : lenOk (fs.length + 1) = true) :
    sp__law_due.F [.tuple [.str "fill"], stD fs es b p own (st ++ [.tuple [.str "at", .int n], v]), frm b p own (st ++ [.tuple [.str "at", .int n], v])] = some (.ok (goD (fs ++ [frm b (p + 1) own st]) (dputE es (.inl n) (.tuple [.str "box", v])), [])) := by
  have hk : ∃ ft : R.FT, ft.fn "_law_is_box" = some sp__law_is_box ∧ sp__law_due.F [.tuple [.str "fill"], stD fs es b p own (st ++ [.tuple [.str "at", .int n], v]), frm b p own (st ++ [.tuple [.str "at", .int n], v])] = endD ⟨3, [], ⟨false, false⟩, fun _ => none⟩ (evSl ft b__law_due [.sh false (.tuple [.str "fill"]), .sh false (stD fs es b p own (st ++ [.tuple [.str "at", .int n], v])), .sh false (frm b p own (st ++ [.tuple [.str "at", .int n], v])), .no, .no, .no, .no]) := ⟨_, rfl, un__law_due _ _ _⟩
  obtain ⟨ft, f1, hk⟩ := hk
  rw [hk]
  apply Ends.eq
  unfold b__law_due
  have a1 : ∀ x y z : R.D, L2.atI [x, y, z] 1 = some y := fun _ _ _ => rfl
  have a2 : ∀ x y z : R.D, L2.atI [x, y, z] 2 = some z := fun _ _ _ => rfl
  have b0 : ∀ x y z w : R.D, L2.atI [x, y, z, w] 0 = some x := fun _ _ _ _ => rfl
  have b1 : ∀ x y z w : R.D, L2.atI [x, y, z, w] 1 = some y := fun _ _ _ _ => rfl
  have b2 : ∀ x y z w : R.D, L2.atI [x, y, z, w] 2 = some z := fun _ _ _ _ => rfl
  have b3 : ∀ x y z w : R.D, L2.atI [x, y, z, w] 3 = some w := fun _ _ _ _ => rfl
  have c0 : ∀ x : R.D, L2.atI [x] 0 = some x := fun _ => rfl
  have d0 : ∀ x y : R.D, L2.atI [x, y] 0 = some x := fun _ _ => rfl
  have d1 : ∀ x y : R.D, L2.atI [x, y] 1 = some y := fun _ _ => rfl
  (rw [evSl_cons]; simp! [b3])
  have z : (st ++ [PyData.tuple [.str "at", .int n], v]) = (st ++ [PyData.tuple [.str "at", .int n]]) ++ [v] := by rw [List.append_assoc]; rfl
  have z1 : L2.atI (st ++ [PyData.tuple [.str "at", .int n], v]) (-1) = some v := by rw [z]; exact at_last
  have q : (((st ++ [PyData.tuple [.str "at", .int n], v]).length : Int) < 2) = False := eq_false (by rw [List.length_append]; simp only [List.length_cons, List.length_nil]; omega)
  (rw [evSl_cons]; simp! [c0, d0, d1, q])
  rw [evSl_nil, seqO_nx]
  (rw [evSl_cons]; simp! [c0])
  rw [evSl_nil, seqO_nx]
  (rw [evSl_cons]; simp! [c0, evE_neg, at_last2, a2, f1, h])
  rw [evSl_nil, seqO_nx]
  (rw [evSl_cons]; simp! [a2])
  rw [evSl_cons]
  simp! [c0]
  rw [evSl_cons]
  simp! [c0]
  (rw [evSl_cons]; simp! [evE_neg, at_last2, z1, d1, hle])
  (rw [evSl_cons]; simp! [evO_so, evE_neg, cut_init2])
  (rw [evSl_cons]; simp!)
  rw [evSl_nil, seqO_nx]
  rw [evSl_nil, seqO_nx]
  (rw [evSl_cons]; simp!)
  (rw [evSl_cons]; simp! [evO_so, evE_neg, cut_init, a1, b0, b1, b2, hl2])
  exact Ends.mk rfl
theorem seqO_assoc {o : Option Oc} {g h : R.Env1 → Option Oc} : seqO (seqO o g) h = seqO o fun e => seqO (g e) h := by
  cases o with
  | none => rfl
  | some oc => cases oc <;> rfl
theorem foldl_max : ∀ (ks : List Int) (k : Int), (∀ x, x ∈ k :: ks → x ≤ ks.foldl (fun a b => if b > a then b else a) k) ∧ ks.foldl (fun a b => if b > a then b else a) k ∈ k :: ks
  | [], k => ⟨fun x hx => by rw [List.mem_singleton.mp hx]; exact Int.le_refl _, List.mem_cons_self⟩
  | j :: ks, k => by
    obtain ⟨h1, h2⟩ := foldl_max ks (if j > k then j else k)
    have e : (j :: ks).foldl (fun a b => if b > a then b else a) k = ks.foldl (fun a b => if b > a then b else a) (if j > k then j else k) := rfl
    rw [e]
    have h0 := h1 _ List.mem_cons_self
    refine ⟨fun x hx => ?_, ?_⟩
    · rcases List.mem_cons.mp hx with z | z
      · exact Int.le_trans (by rw [z]; split <;> omega) h0
      · rcases List.mem_cons.mp z with y | y
        · exact Int.le_trans (by rw [y]; split <;> omega) h0
        · exact h1 x (List.mem_cons_of_mem _ y)
    · rcases List.mem_cons.mp h2 with z | z
      · rw [z]
        split
        · exact List.mem_cons_of_mem _ List.mem_cons_self
        · exact List.mem_cons_self
      · exact List.mem_cons_of_mem _ (List.mem_cons_of_mem _ z)
theorem newN_eq {ks : List Int} {m : Int} (h0 : 0 ≤ m) (h1 : ∀ k, k ∈ ks → 0 ≤ k) (h2 : ∀ k, k ∈ ks → k + 1 ≤ m) (h3 : m = 0 ∨ ∃ k, k ∈ ks ∧ m = k + 1) : newN ks = m := by
  cases ks with
  | nil =>
    rcases h3 with h | ⟨k, hk, _⟩
    · rw [h]; rfl
    · cases hk
  | cons k ks =>
    have hm : maxI (k :: ks) = some (ks.foldl (fun a b => if b > a then b else a) k) := rfl
    unfold newN
    rw [hm]
    obtain ⟨q1, q2⟩ := foldl_max ks k
    have r1 := h2 _ q2
    rcases h3 with h | ⟨j, hj, h⟩
    · have := h1 k List.mem_cons_self
      have := h2 k List.mem_cons_self
      omega
    · have := q1 j hj
      show _ + 1 = m
      omega
theorem due_box {fs : List R.D} {es : List (R.D × R.D)} {ks : List Int} {b p : Int} {own st : List R.D} {v : R.D} (hk0 : es.map (·.1) = ks.map PyData.int) (hp : ∀ k, k ∈ ks → 0 ≤ k) (hl : lenOk (st.length + 1) = true) (hle : lenOk es.length = true) (hl2 : lenOk (fs.length + 1) = true) :
    sp__law_due.F [.tuple [.str "box"], stD fs es b p own (st ++ [v]), frm b p own (st ++ [v])] = some (.ok (goD (fs ++ [frm b (p + 1) own (st ++ [.tuple [.str "at", .int (newN ks)]])]) (dputE es (.inl (newN ks)) (.tuple [.str "box", v])), [])) := by
  have hk : ∃ ft : R.FT, ft.fn "_law_is_box" = some sp__law_is_box ∧ sp__law_due.F [.tuple [.str "box"], stD fs es b p own (st ++ [v]), frm b p own (st ++ [v])] = endD ⟨3, [], ⟨false, false⟩, fun _ => none⟩ (evSl ft b__law_due [.sh false (.tuple [.str "box"]), .sh false (stD fs es b p own (st ++ [v])), .sh false (frm b p own (st ++ [v])), .no, .no, .no, .no]) := ⟨_, rfl, un__law_due _ _ _⟩
  obtain ⟨ft, f1, hk⟩ := hk
  rw [hk]
  apply Ends.eq
  unfold b__law_due
  have a1 : ∀ x y z : R.D, L2.atI [x, y, z] 1 = some y := fun _ _ _ => rfl
  have a2 : ∀ x y z : R.D, L2.atI [x, y, z] 2 = some z := fun _ _ _ => rfl
  have b0 : ∀ x y z w : R.D, L2.atI [x, y, z, w] 0 = some x := fun _ _ _ _ => rfl
  have b1 : ∀ x y z w : R.D, L2.atI [x, y, z, w] 1 = some y := fun _ _ _ _ => rfl
  have b2 : ∀ x y z w : R.D, L2.atI [x, y, z, w] 2 = some z := fun _ _ _ _ => rfl
  have b3 : ∀ x y z w : R.D, L2.atI [x, y, z, w] 3 = some w := fun _ _ _ _ => rfl
  have c0 : ∀ x : R.D, L2.atI [x] 0 = some x := fun _ => rfl
  have d0 : ∀ x y : R.D, L2.atI [x, y] 0 = some x := fun _ _ => rfl
  have d1 : ∀ x y : R.D, L2.atI [x, y] 1 = some y := fun _ _ => rfl
  (rw [evSl_cons]; simp! [b3])
  have q : (((st ++ [v]).length : Int) < 1) = False := eq_false (by rw [len_last]; omega)
  (rw [evSl_cons]; simp! [c0, d0, d1, q])
  rw [evSl_nil, seqO_nx]
  (rw [evSl_cons]; simp! [c0])
  rw [evSl_nil, seqO_nx]
  (rw [evSl_cons]; simp! [c0])
  rw [evSl_nil, seqO_nx]
  (rw [evSl_cons]; simp! [a2])
  rw [evSl_cons]
  simp! [c0]
  (rw [evSl_cons]; simp!)
  rw [evSl_cons, evSt_for1]
  simp!
  rw [seqO_assoc, hk0]
  refine loop_cps (fun j e => ∃ (m : Int) (s6 : R.Slot), mutOld (some s6) = false ∧ 0 ≤ m ∧ (∀ k, k ∈ ks.take j → k + 1 ≤ m) ∧ (m = 0 ∨ ∃ k, k ∈ ks.take j ∧ m = k + 1) ∧ e = [.sh false (.tuple [.str "box"]), .sh false (stD fs es b p own (st ++ [v])), .sh false (frm b p own (st ++ [v])), .sh (noMut (frm b p own (st ++ [v]))) (.tuple (st ++ [v])), .ow true (noMutK es) (.dict es), .sh true (.int m), s6]) ⟨0, .no, rfl, Int.le_refl _, by simp, .inl rfl, rfl⟩ ?_ ?_
  · rintro j e d hd ⟨m, s6, h6, m0, m1, m2, rfl⟩
    obtain ⟨x, hx, rfl⟩ : ∃ x, ks[j]? = some x ∧ d = .int x := by
      rw [List.getElem?_map] at hd
      cases hq : ks[j]? with
      | none => rw [hq] at hd; cases hd
      | some x => rw [hq] at hd; cases hd; exact ⟨x, rfl, rfl⟩
    refine ⟨[.sh false (.tuple [.str "box"]), .sh false (stD fs es b p own (st ++ [v])), .sh false (frm b p own (st ++ [v])), .sh (noMut (frm b p own (st ++ [v]))) (.tuple (st ++ [v])), .ow true (noMutK es) (.dict es), .sh true (.int m), .sh true (.int x)], by simp! [h6], ?_⟩
    have ht : ks.take (j + 1) = ks.take j ++ [x] := by rw [List.take_succ, hx]; rfl
    have hx0 := hp x (List.mem_of_getElem? hx)
    (rw [evSl_cons]; simp!)
    refine Nxt.nil ⟨if x + 1 > m then x + 1 else m, _, rfl, by split <;> omega, fun k hk => ?_, ?_, rfl⟩
    · rw [ht] at hk
      rcases List.mem_append.mp hk with y | y
      · have := m1 k y
        split <;> omega
      · rw [List.mem_singleton.mp y]
        split <;> omega
    · by_cases g : x + 1 > m
      · rw [if_pos g]
        exact .inr ⟨x, by rw [ht]; exact List.mem_append_right _ (List.mem_singleton.mpr rfl), rfl⟩
      · rw [if_neg g]
        rcases m2 with y | ⟨k, y, y2⟩
        · exact .inl y
        · exact .inr ⟨k, by rw [ht]; exact List.mem_append_left _ y, y2⟩
  · rintro e ⟨m, s6, h6, m0, m1, m2, rfl⟩
    rw [List.length_map, List.take_length] at m1 m2
    have hm := newN_eq m0 hp m1 m2
    subst hm
    (rw [evSl_cons]; simp! [evE_neg, at_last, hle])
    (rw [evSl_cons]; simp! [evO_so, evE_neg, cut_init, hl])
    (rw [evSl_cons]; simp!)
    rw [evSl_nil, seqO_nx]
    (rw [evSl_cons]; simp!)
    (rw [evSl_cons]; simp! [evO_so, evE_neg, cut_init, a1, b0, b1, b2, hl2])
    exact Ends.mk rfl
end K03RWA
namespace K03RWA
open PySem PySem.Spec PyProof.Rows L2 R
theorem VsD.mono {ns ms : List Int} {n : Nat} {ds : List R.D} (h : VsD ns n ds) (e : ∀ n, n ∈ ns → n ∈ ms) : VsD ms n ds := ⟨h.1, fun d hd => (h.2 d hd).mono e⟩
theorem FrW.mono {ns ms : List Int} {f : R.D} (h : FrW ns f) (e : ∀ n, n ∈ ns → n ∈ ms) : FrW ms f := by
  obtain ⟨b, p, own, st, h1, h2, h3⟩ := h
  exact ⟨b, p, own, st, h1, h2.mono e, h3.mono e⟩
theorem ThD.mono {ns ms : List Int} {nb : Int} {d : R.D} (h : ThD ns nb d) (e : ∀ n, n ∈ ns → n ∈ ms) : ThD ms nb d := by
  rcases h with ⟨v, hv, h⟩ | ⟨b, ks, h1, h2, h3, h4, h5⟩
  · exact .inl ⟨v, hv.mono e, h⟩
  · exact .inr ⟨b, ks, h1, h2, h3, fun v hv => (h4 v hv).mono e, h5⟩
theorem TsD.mono {ns ms : List Int} {nb : Int} {es : List (R.D × R.D)} (T : TsD ns nb es) (e : ∀ n, n ∈ ns → n ∈ ms) : TsD ms nb es :=
  ⟨fun x hx => let ⟨n, h1, h2⟩ := T.key x hx; ⟨n, e n h1, h2⟩, fun x hx => (T.val x hx).mono e, T.nd, T.len⟩
theorem ThD.nm {ns : List Int} {nb : Int} {d : R.D} (h : ThD ns nb d) : noMut d = true := by
  rcases h with ⟨v, hv, rfl⟩ | ⟨b, ks, h1, h2, h3, h4, rfl⟩
  · show (true && (noMut v && true)) = true
    rw [hv.nm]; rfl
  · show (true && (true && (noMutA ks && true))) = true
    rw [noMutA_of fun v hv => (h4 v hv).nm]; rfl
theorem noMutK_of : ∀ {es : List (R.D × R.D)}, (∀ e, e ∈ es → noMut e.2 = true) → noMutK es = true
  | [], _ => rfl
  | x :: xs, h => by rw [noMutK, h x List.mem_cons_self, noMutK_of fun e he => h e (List.mem_cons_of_mem _ he)]; rfl
theorem TsD.nm {ns : List Int} {nb : Int} {es : List (R.D × R.D)} (T : TsD ns nb es) : noMutK es = true := noMutK_of fun e he => (T.val e he).nm
theorem FrW.nm {ns : List Int} {f : R.D} (h : FrW ns f) : noMut f = true := by
  obtain ⟨b, p, own, st, rfl, h1, h2⟩ := h
  exact fr_nm h1 h2
theorem frs_nm {ns : List Int} {fs : List R.D} (h : ∀ f, f ∈ fs → FrW ns f) : noMutA fs = true := noMutA_of fun f hf => (h f hf).nm
/-- what the law asks of an answer -/
structure AnsOk (e : R.D) (fs : List R.D) (es : List (R.D × R.D)) : Prop where
  ae : Alk 8 e
  af : Alk 8 (.list fs)
  as : SameT es es
  lf : lenOk fs.length = true
  le : lenOk es.length = true
abbrev ansD (e : R.D) (fs : List R.D) (es : List (R.D × R.D)) : R.D := .tuple [.tuple [e, .list fs, .dict es], .none]
theorem ans_of {ns : List Int} {nb : Int} {e : R.D} {fs : List R.D} {es : List (R.D × R.D)} (he : Alk 8 e) (hf : ∀ f, f ∈ fs → FrW ns f) (hfl : fs.length ≤ 1000) (T : TsD ns nb es) : AnsOk e fs es :=
  ⟨he, (frs_alk hf hfl).le (by decide), T.w.same, lenOk_of hfl, lenOk_of T.len⟩
local macro_rules | `(tactic| simp! [$ls,*]) => `(tactic| simp only [lit_inj, shaped_lit, small_lit, len_lit, String.reduceEq, Nat.reduceLeDiff, upK_t, upK_f, noMutI_l, noMutI_d, evE_call, evE_v, evE_k, evE_dnew, evE_tup, evE_lst, 
    evE_bin, evE_cmp, evE_ch, evE_and, evE_or, andK_ok, orK_ok, evE_not, evE_ife, evE_bf, evE_isi, evE_ix, evE_sl, evE_vals, evE_me, evL_nil, evL_cons, evBL_nil, 
    evBL_cons, evO_no, evO_k, evT_def, evB_def, evSt_set, evSt_ife, evSt_ret, evSt_frz, evSt_app, evSt_sti, evSt_unp, retE_v, retE_k, retE_tup, retE_lst, retE_bin, 
    retE_cmp, retE_ch, retE_and, retE_or, retE_not, retE_ife, retE_call, retE_bf, retE_isi, retE_ix, retE_sl, retE_lc, brw_v, brw_k, brw_g, brw_neg, brw_tup, 
    brw_lst, brw_bin, brw_cmp, brw_ch, brw_and, brw_or, brw_not, brw_ife, brw_call, brw_bf, brw_isi, brw_ix, brw_sl, brw_lc, brw_vals, brw_ge, brw_dnew, brw_me, 
    bd_ok, bd_ok', exO_ok, exO_ok', lift_some, slotV_sh, slotB_sh, slotB_ow, toB_ok, toB_ok', ok_def, sc, callR_ok, bin_add, bin_sub, bin_mul, bin_div, bin_mod, 
    bf_len_l, bf_len_t, bf_len_d, bf_list_l, bf_list_t, bf_list_d, bf_tuple_l, bf_dict_d, bf_max, bf_int_b, cmp_gt, cmp_lt, cmp_le, cmp_ge, cmp_eqi, cmp_eqs, 
    cmp_nes, cmp_is, ix_l, ix_t, trE_ok, truthE, mul_l, mul_r, putS, mutOld_no, mutOld_sh, mutOld_ow, slotOf_t, slotOf_f, frzE, stiE, appE, keyOf_int0, isSc_int, 
    isSc_str, isSc_none, isSc_bool, noMut_int, noMut_str, noMut_none, noMut_bool, noMut_list, noMut_dict, List.getElem?_cons_succ, List.getElem?_cons_zero, 
    List.set_cons_succ, List.set_cons_zero, List.length_cons, List.length_nil, List.length_map, Nat.reduceAdd, Nat.reduceLT, Int.reduceLT, Int.reduceMul, 
    Int.reduceAdd, Int.reduceSub, Int.reduceNeg, Int.reduceLE, Int.reduceToNat, Nat.reducePow, Int.reducePow, Option.bind_some, bin_pow, bin_add_t, bin_add_l, 
    bin_add_s, sl_t, sl_l, isOwL_t, atI2, atI2i, isOw_t, and_self, true_and, and_true, if_true, if_false, Bool.false_eq_true, decide_true, decide_false, 
    decide_eq_true_eq, Option.map_some, Bool.or_true, Bool.true_and, Bool.and_true, Bool.false_or, Bool.or_false, Bool.false_and, Bool.and_false, Bool.true_or, 
    Bool.or_self, Bool.and_self, seqO_nx, seqO_rt, seqO_er, evSv_r, evSv_l, items_l, items_t, evS_l, evS_r, callK_ok, callK_b0, callK_b1, callK_b2, callK_b3, 
    callK_b4, eq_self, Int.toNat_natCast, isi_none_tuple_list, isi_none_tuple, isi_none_list, isi_none_str, isi_none_int, isi_none_bool, isi_none_dict, 
    isi_bool_tuple_list, isi_bool_tuple, isi_bool_list, isi_bool_str, isi_bool_int, isi_bool_bool, isi_bool_dict, isi_int_tuple_list, isi_int_tuple, isi_int_list, 
    isi_int_str, isi_int_int, isi_int_bool, isi_int_dict, isi_str_tuple_list, isi_str_tuple, isi_str_list, isi_str_str, isi_str_int, isi_str_bool, isi_str_dict, 
    isi_list_tuple_list, isi_list_tuple, isi_list_list, isi_list_str, isi_list_int, isi_list_bool, isi_list_dict, isi_tuple_tuple_list, isi_tuple_tuple, 
    isi_tuple_list, isi_tuple_str, isi_tuple_int, isi_tuple_bool, isi_tuple_dict, isi_dict_tuple_list, isi_dict_tuple, isi_dict_list, isi_dict_str, isi_dict_int, 
    isi_dict_bool, isi_dict_dict, cmp_nei, cmp_neb, cmp_eqb, cmp_isb, cmp_isnb, cmp_in_d, cmp_nin_d, ix_d, bf_all_l, Int.cast_ofNat_Int, Int.ofNat_zero, 
    Int.ofNat_one, Int.reduceEq, Int.reduceNe, Nat.reduceEqDiff, not_true_eq_false, not_false_eq_true, Bool.not_true, Bool.not_false, Bool.not_not, 
    Option.isSome_some, Option.isSome_none, Bool.not_eq_true, Bool.and_eq_true, Bool.or_eq_true, Bool.not_eq_false, putAll_nil, putAll_cons, hideE, evC_so, cmp_nn, 
    cmp_en, bf_sorted, evSt_tl, evTl_set, evTl_tst, evTl_wrk, loE_cons, loE_nil, loS_no, loS_sh, loS_ow, oldFree_nil, oldFree_no, oldFree_sh, oldFree_ow, ne_eq, 
    evE_neg, bf_min, evE_g, at_last, cut_init, evO_so, cmp_isnot, evSt_mat, evCs_nil, putB_nil, bf_max_l, mu_sp_is_number, n_sp_is_number, kd_sp_is_number, 
    mu_sp_thing_of, n_sp_thing_of, kd_sp_thing_of, mu_sp_is_box, n_sp_is_box, kd_sp_is_box, mu_sp_is_function, n_sp_is_function, kd_sp_is_function, mu_sp_new_number, 
    n_sp_new_number, kd_sp_new_number, mu_sp_spoken, n_sp_spoken, kd_sp_spoken, mu_sp_reckoned, n_sp_reckoned, kd_sp_reckoned, mu_sp_lacks_own, n_sp_lacks_own, 
    kd_sp_lacks_own, mu_sp_is_wrong_kind, n_sp_is_wrong_kind, kd_sp_is_wrong_kind, mu_sp_is_too_great, n_sp_is_too_great, kd_sp_is_too_great, mu_sp_is_full, 
    n_sp_is_full, kd_sp_is_full, mu_sp_stuck_word, n_sp_stuck_word, kd_sp_stuck_word, mu_sp_push, n_sp_push, kd_sp_push, mu_sp_keep, n_sp_keep, kd_sp_keep, 
    mu_sp_push_new, n_sp_push_new, kd_sp_push_new, mu_sp_go, n_sp_go, kd_sp_go, mu_sp_own_values, n_sp_own_values, kd_sp_own_values, mu_sp_do_instruction, 
    n_sp_do_instruction, kd_sp_do_instruction, mu_sp_stepped, n_sp_stepped, kd_sp_stepped, mu_sp__law_cell, n_sp__law_cell, kd_sp__law_cell, mu_sp__law_raw, 
    n_sp__law_raw, kd_sp__law_raw, mu_sp__law_whole, n_sp__law_whole, kd_sp__law_whole, mu_sp__law_number, n_sp__law_number, kd_sp__law_number, mu_sp__law_value, 
    n_sp__law_value, kd_sp__law_value, mu_sp__law_values, n_sp__law_values, kd_sp__law_values, mu_sp__law_names, n_sp__law_names, kd_sp__law_names, 
    mu_sp__law_things, n_sp__law_things, kd_sp__law_things, mu_sp__law_frame, n_sp__law_frame, kd_sp__law_frame, mu_sp__law_frames, n_sp__law_frames, 
    kd_sp__law_frames, mu_sp__law_row, n_sp__law_row, kd_sp__law_row, mu_sp__law_program, n_sp__law_program, kd_sp__law_program, mu_sp__law_state, n_sp__law_state, 
    kd_sp__law_state, mu_sp__law_topped, n_sp__law_topped, kd_sp__law_topped, mu_sp__law_same_things, n_sp__law_same_things, kd_sp__law_same_things, 
    mu_sp__law_same_state, n_sp__law_same_state, kd_sp__law_same_state, mu_sp__law_copy, n_sp__law_copy, kd_sp__law_copy, mu_sp__law_is_box, n_sp__law_is_box, 
    kd_sp__law_is_box, mu_sp__law_due, n_sp__law_due, kd_sp__law_due, mu_sp_law, n_sp_law, kd_sp_law, mu_sp__law_alike, n_sp__law_alike, kd_sp__law_alike, noMut_st, 
    kd_popped_by, mu_popped_by, n_popped_by, $ls,*])
local macro_rules | `(tactic| simp!) => `(tactic| simp only [lit_inj, shaped_lit, small_lit, len_lit, String.reduceEq, Nat.reduceLeDiff, upK_t, upK_f, noMutI_l, noMutI_d, evE_call, evE_v, evE_k, evE_dnew, evE_tup, evE_lst, 
    evE_bin, evE_cmp, evE_ch, evE_and, evE_or, andK_ok, orK_ok, evE_not, evE_ife, evE_bf, evE_isi, evE_ix, evE_sl, evE_vals, evE_me, evL_nil, evL_cons, evBL_nil, 
    evBL_cons, evO_no, evO_k, evT_def, evB_def, evSt_set, evSt_ife, evSt_ret, evSt_frz, evSt_app, evSt_sti, evSt_unp, retE_v, retE_k, retE_tup, retE_lst, retE_bin, 
    retE_cmp, retE_ch, retE_and, retE_or, retE_not, retE_ife, retE_call, retE_bf, retE_isi, retE_ix, retE_sl, retE_lc, brw_v, brw_k, brw_g, brw_neg, brw_tup, 
    brw_lst, brw_bin, brw_cmp, brw_ch, brw_and, brw_or, brw_not, brw_ife, brw_call, brw_bf, brw_isi, brw_ix, brw_sl, brw_lc, brw_vals, brw_ge, brw_dnew, brw_me, 
    bd_ok, bd_ok', exO_ok, exO_ok', lift_some, slotV_sh, slotB_sh, slotB_ow, toB_ok, toB_ok', ok_def, sc, callR_ok, bin_add, bin_sub, bin_mul, bin_div, bin_mod, 
    bf_len_l, bf_len_t, bf_len_d, bf_list_l, bf_list_t, bf_list_d, bf_tuple_l, bf_dict_d, bf_max, bf_int_b, cmp_gt, cmp_lt, cmp_le, cmp_ge, cmp_eqi, cmp_eqs, 
    cmp_nes, cmp_is, ix_l, ix_t, trE_ok, truthE, mul_l, mul_r, putS, mutOld_no, mutOld_sh, mutOld_ow, slotOf_t, slotOf_f, frzE, stiE, appE, keyOf_int0, isSc_int, 
    isSc_str, isSc_none, isSc_bool, noMut_int, noMut_str, noMut_none, noMut_bool, noMut_list, noMut_dict, List.getElem?_cons_succ, List.getElem?_cons_zero, 
    List.set_cons_succ, List.set_cons_zero, List.length_cons, List.length_nil, List.length_map, Nat.reduceAdd, Nat.reduceLT, Int.reduceLT, Int.reduceMul, 
    Int.reduceAdd, Int.reduceSub, Int.reduceNeg, Int.reduceLE, Int.reduceToNat, Nat.reducePow, Int.reducePow, Option.bind_some, bin_pow, bin_add_t, bin_add_l, 
    bin_add_s, sl_t, sl_l, isOwL_t, atI2, atI2i, isOw_t, and_self, true_and, and_true, if_true, if_false, Bool.false_eq_true, decide_true, decide_false, 
    decide_eq_true_eq, Option.map_some, Bool.or_true, Bool.true_and, Bool.and_true, Bool.false_or, Bool.or_false, Bool.false_and, Bool.and_false, Bool.true_or, 
    Bool.or_self, Bool.and_self, seqO_nx, seqO_rt, seqO_er, evSv_r, evSv_l, items_l, items_t, evS_l, evS_r, callK_ok, callK_b0, callK_b1, callK_b2, callK_b3, 
    callK_b4, eq_self, Int.toNat_natCast, isi_none_tuple_list, isi_none_tuple, isi_none_list, isi_none_str, isi_none_int, isi_none_bool, isi_none_dict, 
    isi_bool_tuple_list, isi_bool_tuple, isi_bool_list, isi_bool_str, isi_bool_int, isi_bool_bool, isi_bool_dict, isi_int_tuple_list, isi_int_tuple, isi_int_list, 
    isi_int_str, isi_int_int, isi_int_bool, isi_int_dict, isi_str_tuple_list, isi_str_tuple, isi_str_list, isi_str_str, isi_str_int, isi_str_bool, isi_str_dict, 
    isi_list_tuple_list, isi_list_tuple, isi_list_list, isi_list_str, isi_list_int, isi_list_bool, isi_list_dict, isi_tuple_tuple_list, isi_tuple_tuple, 
    isi_tuple_list, isi_tuple_str, isi_tuple_int, isi_tuple_bool, isi_tuple_dict, isi_dict_tuple_list, isi_dict_tuple, isi_dict_list, isi_dict_str, isi_dict_int, 
    isi_dict_bool, isi_dict_dict, cmp_nei, cmp_neb, cmp_eqb, cmp_isb, cmp_isnb, cmp_in_d, cmp_nin_d, ix_d, bf_all_l, Int.cast_ofNat_Int, Int.ofNat_zero, 
    Int.ofNat_one, Int.reduceEq, Int.reduceNe, Nat.reduceEqDiff, not_true_eq_false, not_false_eq_true, Bool.not_true, Bool.not_false, Bool.not_not, 
    Option.isSome_some, Option.isSome_none, Bool.not_eq_true, Bool.and_eq_true, Bool.or_eq_true, Bool.not_eq_false, putAll_nil, putAll_cons, hideE, evC_so, cmp_nn, 
    cmp_en, bf_sorted, evSt_tl, evTl_set, evTl_tst, evTl_wrk, loE_cons, loE_nil, loS_no, loS_sh, loS_ow, oldFree_nil, oldFree_no, oldFree_sh, oldFree_ow, ne_eq, 
    evE_neg, bf_min, evE_g, at_last, cut_init, evO_so, cmp_isnot, evSt_mat, evCs_nil, putB_nil, bf_max_l, mu_sp_is_number, n_sp_is_number, kd_sp_is_number, 
    mu_sp_thing_of, n_sp_thing_of, kd_sp_thing_of, mu_sp_is_box, n_sp_is_box, kd_sp_is_box, mu_sp_is_function, n_sp_is_function, kd_sp_is_function, mu_sp_new_number, 
    n_sp_new_number, kd_sp_new_number, mu_sp_spoken, n_sp_spoken, kd_sp_spoken, mu_sp_reckoned, n_sp_reckoned, kd_sp_reckoned, mu_sp_lacks_own, n_sp_lacks_own, 
    kd_sp_lacks_own, mu_sp_is_wrong_kind, n_sp_is_wrong_kind, kd_sp_is_wrong_kind, mu_sp_is_too_great, n_sp_is_too_great, kd_sp_is_too_great, mu_sp_is_full, 
    n_sp_is_full, kd_sp_is_full, mu_sp_stuck_word, n_sp_stuck_word, kd_sp_stuck_word, mu_sp_push, n_sp_push, kd_sp_push, mu_sp_keep, n_sp_keep, kd_sp_keep, 
    mu_sp_push_new, n_sp_push_new, kd_sp_push_new, mu_sp_go, n_sp_go, kd_sp_go, mu_sp_own_values, n_sp_own_values, kd_sp_own_values, mu_sp_do_instruction, 
    n_sp_do_instruction, kd_sp_do_instruction, mu_sp_stepped, n_sp_stepped, kd_sp_stepped, mu_sp__law_cell, n_sp__law_cell, kd_sp__law_cell, mu_sp__law_raw, 
    n_sp__law_raw, kd_sp__law_raw, mu_sp__law_whole, n_sp__law_whole, kd_sp__law_whole, mu_sp__law_number, n_sp__law_number, kd_sp__law_number, mu_sp__law_value, 
    n_sp__law_value, kd_sp__law_value, mu_sp__law_values, n_sp__law_values, kd_sp__law_values, mu_sp__law_names, n_sp__law_names, kd_sp__law_names, 
    mu_sp__law_things, n_sp__law_things, kd_sp__law_things, mu_sp__law_frame, n_sp__law_frame, kd_sp__law_frame, mu_sp__law_frames, n_sp__law_frames, 
    kd_sp__law_frames, mu_sp__law_row, n_sp__law_row, kd_sp__law_row, mu_sp__law_program, n_sp__law_program, kd_sp__law_program, mu_sp__law_state, n_sp__law_state, 
    kd_sp__law_state, mu_sp__law_topped, n_sp__law_topped, kd_sp__law_topped, mu_sp__law_same_things, n_sp__law_same_things, kd_sp__law_same_things, 
    mu_sp__law_same_state, n_sp__law_same_state, kd_sp__law_same_state, mu_sp__law_copy, n_sp__law_copy, kd_sp__law_copy, mu_sp__law_is_box, n_sp__law_is_box, 
    kd_sp__law_is_box, mu_sp__law_due, n_sp__law_due, kd_sp__law_due, mu_sp_law, n_sp_law, kd_sp_law, mu_sp__law_alike, n_sp__law_alike, kd_sp__law_alike, noMut_st, 
    kd_popped_by, mu_popped_by, n_popped_by])
theorem alk_stuck {w : Str} (h : shapedB (.str w) = true) : Alk 8 (.tuple [.str "stuck", .str w]) := by
  refine ⟨by simp, fun x hx => ?_⟩
  simp only [List.mem_cons, List.mem_nil_iff, or_false] at hx
  rcases hx with rfl | rfl
  · show shapedB (.str "stuck") = true
    simp!
  · exact h
end K03RWA
namespace K03RWA
open PySem PySem.Spec PyProof.Rows L2 R
/-- where a step is asked about -/
structure At (bs : List (List R.D)) (ns ks : List Int) (fs : List R.D) (es : List (R.D × R.D)) (b pl : Nat) (own st body : List R.D) (w : Str) : Prop where
  hb : bs[b]? = some body
  hp : body[pl]? = some (.tuple [.str w])
  dm : Dom ns ks bs.length es
  fr : ∀ f, f ∈ fs → FrW ns f
  fl : fs.length ≤ 59
  vo : VsD ns 60 own
  vs : VsD ns 60 st
  el : es.length ≤ 900
  k0 : ∀ k, k ∈ ks → 0 ≤ k
section
variable {bs : List (List R.D)} {ns ks : List Int} {fs : List R.D} {es : List (R.D × R.D)} {b pl : Nat} {own st body : List R.D} {w : Str}
theorem frm_w {ns : List Int} {b p : Nat} {own st : List R.D} (h1 : VsD ns 60 own) (h2 : VsD ns 60 st) : FrW ns (frm b p own st) := ⟨b, p, own, st, rfl, h1, h2⟩
theorem fw_app {ns : List Int} {fs : List R.D} {f : R.D} (h : ∀ f, f ∈ fs → FrW ns f) (hf : FrW ns f) : ∀ x, x ∈ fs ++ [f] → FrW ns x := fun x hx => by
  rcases List.mem_append.mp hx with z | z
  · exact h x z
  · rw [List.mem_singleton.mp z]; exact hf
theorem At.all (A : At bs ns ks fs es b pl own st body w) : ∀ f, f ∈ fs ++ [frm b pl own st] → FrW ns f := fw_app A.fr (frm_w A.vo A.vs)
theorem At.lall (A : At bs ns ks fs es b pl own st body w) : (fs ++ [frm b pl own st]).length ≤ 1000 := by
  rw [len_last]; have := A.fl; omega
theorem At.stuck (A : At bs ns ks fs es b pl own st body w) {x : Str} (hx : shapedB (.str x) = true) (hs : sp_stuck_word.F [.list (bs.map .list), .list (fs ++ [frm b pl own st]), .dict es] = some (.ok (.str x, [])))
    (hd : sp__law_due.F [.tuple [.str w], stD fs es b pl own st, frm b pl own st] = some (.ok (stuckD x (fs ++ [frm b pl own st]) es, []))) :
    ∃ e' fs' es', AnsOk e' fs' es' ∧ sp_stepped.F [.list (bs.map .list), stD fs es b pl own st] = some (.ok (ansD e' fs' es', [])) ∧ sp__law_due.F [.tuple [.str w], stD fs es b pl own st, frm b pl own st] = some (.ok (ansD e' fs' es', [])) :=
  ⟨_, _, _, ans_of (alk_stuck hx) A.all A.lall A.dm.ts, stepped_stuck hs (frs_nm A.all) A.dm.ts.nm, hd⟩
theorem alk_none : Alk 8 .none := trivial
local macro_rules | `(tactic| simp! [$ls,*]) => `(tactic| simp only [lit_inj, shaped_lit, small_lit, len_lit, String.reduceEq, Nat.reduceLeDiff, upK_t, upK_f, noMutI_l, noMutI_d, evE_call, evE_v, evE_k, evE_dnew, evE_tup, evE_lst, 
    evE_bin, evE_cmp, evE_ch, evE_and, evE_or, andK_ok, orK_ok, evE_not, evE_ife, evE_bf, evE_isi, evE_ix, evE_sl, evE_vals, evE_me, evL_nil, evL_cons, evBL_nil, 
    evBL_cons, evO_no, evO_k, evT_def, evB_def, evSt_set, evSt_ife, evSt_ret, evSt_frz, evSt_app, evSt_sti, evSt_unp, retE_v, retE_k, retE_tup, retE_lst, retE_bin, 
    retE_cmp, retE_ch, retE_and, retE_or, retE_not, retE_ife, retE_call, retE_bf, retE_isi, retE_ix, retE_sl, retE_lc, brw_v, brw_k, brw_g, brw_neg, brw_tup, 
    brw_lst, brw_bin, brw_cmp, brw_ch, brw_and, brw_or, brw_not, brw_ife, brw_call, brw_bf, brw_isi, brw_ix, brw_sl, brw_lc, brw_vals, brw_ge, brw_dnew, brw_me, 
    bd_ok, bd_ok', exO_ok, exO_ok', lift_some, slotV_sh, slotB_sh, slotB_ow, toB_ok, toB_ok', ok_def, sc, callR_ok, bin_add, bin_sub, bin_mul, bin_div, bin_mod, 
    bf_len_l, bf_len_t, bf_len_d, bf_list_l, bf_list_t, bf_list_d, bf_tuple_l, bf_dict_d, bf_max, bf_int_b, cmp_gt, cmp_lt, cmp_le, cmp_ge, cmp_eqi, cmp_eqs, 
    cmp_nes, cmp_is, ix_l, ix_t, trE_ok, truthE, mul_l, mul_r, putS, mutOld_no, mutOld_sh, mutOld_ow, slotOf_t, slotOf_f, frzE, stiE, appE, keyOf_int0, isSc_int, 
    isSc_str, isSc_none, isSc_bool, noMut_int, noMut_str, noMut_none, noMut_bool, noMut_list, noMut_dict, List.getElem?_cons_succ, List.getElem?_cons_zero, 
    List.set_cons_succ, List.set_cons_zero, List.length_cons, List.length_nil, List.length_map, Nat.reduceAdd, Nat.reduceLT, Int.reduceLT, Int.reduceMul, 
    Int.reduceAdd, Int.reduceSub, Int.reduceNeg, Int.reduceLE, Int.reduceToNat, Nat.reducePow, Int.reducePow, Option.bind_some, bin_pow, bin_add_t, bin_add_l, 
    bin_add_s, sl_t, sl_l, isOwL_t, atI2, atI2i, isOw_t, and_self, true_and, and_true, if_true, if_false, Bool.false_eq_true, decide_true, decide_false, 
    decide_eq_true_eq, Option.map_some, Bool.or_true, Bool.true_and, Bool.and_true, Bool.false_or, Bool.or_false, Bool.false_and, Bool.and_false, Bool.true_or, 
    Bool.or_self, Bool.and_self, seqO_nx, seqO_rt, seqO_er, evSv_r, evSv_l, items_l, items_t, evS_l, evS_r, callK_ok, callK_b0, callK_b1, callK_b2, callK_b3, 
    callK_b4, eq_self, Int.toNat_natCast, isi_none_tuple_list, isi_none_tuple, isi_none_list, isi_none_str, isi_none_int, isi_none_bool, isi_none_dict, 
    isi_bool_tuple_list, isi_bool_tuple, isi_bool_list, isi_bool_str, isi_bool_int, isi_bool_bool, isi_bool_dict, isi_int_tuple_list, isi_int_tuple, isi_int_list, 
    isi_int_str, isi_int_int, isi_int_bool, isi_int_dict, isi_str_tuple_list, isi_str_tuple, isi_str_list, isi_str_str, isi_str_int, isi_str_bool, isi_str_dict, 
    isi_list_tuple_list, isi_list_tuple, isi_list_list, isi_list_str, isi_list_int, isi_list_bool, isi_list_dict, isi_tuple_tuple_list, isi_tuple_tuple, 
    isi_tuple_list, isi_tuple_str, isi_tuple_int, isi_tuple_bool, isi_tuple_dict, isi_dict_tuple_list, isi_dict_tuple, isi_dict_list, isi_dict_str, isi_dict_int, 
    isi_dict_bool, isi_dict_dict, cmp_nei, cmp_neb, cmp_eqb, cmp_isb, cmp_isnb, cmp_in_d, cmp_nin_d, ix_d, bf_all_l, Int.cast_ofNat_Int, Int.ofNat_zero, 
    Int.ofNat_one, Int.reduceEq, Int.reduceNe, Nat.reduceEqDiff, not_true_eq_false, not_false_eq_true, Bool.not_true, Bool.not_false, Bool.not_not, 
    Option.isSome_some, Option.isSome_none, Bool.not_eq_true, Bool.and_eq_true, Bool.or_eq_true, Bool.not_eq_false, putAll_nil, putAll_cons, hideE, evC_so, cmp_nn, 
    cmp_en, bf_sorted, evSt_tl, evTl_set, evTl_tst, evTl_wrk, loE_cons, loE_nil, loS_no, loS_sh, loS_ow, oldFree_nil, oldFree_no, oldFree_sh, oldFree_ow, ne_eq, 
    evE_neg, bf_min, evE_g, at_last, cut_init, evO_so, cmp_isnot, evSt_mat, evCs_nil, putB_nil, bf_max_l, mu_sp_is_number, n_sp_is_number, kd_sp_is_number, 
    mu_sp_thing_of, n_sp_thing_of, kd_sp_thing_of, mu_sp_is_box, n_sp_is_box, kd_sp_is_box, mu_sp_is_function, n_sp_is_function, kd_sp_is_function, mu_sp_new_number, 
    n_sp_new_number, kd_sp_new_number, mu_sp_spoken, n_sp_spoken, kd_sp_spoken, mu_sp_reckoned, n_sp_reckoned, kd_sp_reckoned, mu_sp_lacks_own, n_sp_lacks_own, 
    kd_sp_lacks_own, mu_sp_is_wrong_kind, n_sp_is_wrong_kind, kd_sp_is_wrong_kind, mu_sp_is_too_great, n_sp_is_too_great, kd_sp_is_too_great, mu_sp_is_full, 
    n_sp_is_full, kd_sp_is_full, mu_sp_stuck_word, n_sp_stuck_word, kd_sp_stuck_word, mu_sp_push, n_sp_push, kd_sp_push, mu_sp_keep, n_sp_keep, kd_sp_keep, 
    mu_sp_push_new, n_sp_push_new, kd_sp_push_new, mu_sp_go, n_sp_go, kd_sp_go, mu_sp_own_values, n_sp_own_values, kd_sp_own_values, mu_sp_do_instruction, 
    n_sp_do_instruction, kd_sp_do_instruction, mu_sp_stepped, n_sp_stepped, kd_sp_stepped, mu_sp__law_cell, n_sp__law_cell, kd_sp__law_cell, mu_sp__law_raw, 
    n_sp__law_raw, kd_sp__law_raw, mu_sp__law_whole, n_sp__law_whole, kd_sp__law_whole, mu_sp__law_number, n_sp__law_number, kd_sp__law_number, mu_sp__law_value, 
    n_sp__law_value, kd_sp__law_value, mu_sp__law_values, n_sp__law_values, kd_sp__law_values, mu_sp__law_names, n_sp__law_names, kd_sp__law_names, 
    mu_sp__law_things, n_sp__law_things, kd_sp__law_things, mu_sp__law_frame, n_sp__law_frame, kd_sp__law_frame, mu_sp__law_frames, n_sp__law_frames, 
    kd_sp__law_frames, mu_sp__law_row, n_sp__law_row, kd_sp__law_row, mu_sp__law_program, n_sp__law_program, kd_sp__law_program, mu_sp__law_state, n_sp__law_state, 
    kd_sp__law_state, mu_sp__law_topped, n_sp__law_topped, kd_sp__law_topped, mu_sp__law_same_things, n_sp__law_same_things, kd_sp__law_same_things, 
    mu_sp__law_same_state, n_sp__law_same_state, kd_sp__law_same_state, mu_sp__law_copy, n_sp__law_copy, kd_sp__law_copy, mu_sp__law_is_box, n_sp__law_is_box, 
    kd_sp__law_is_box, mu_sp__law_due, n_sp__law_due, kd_sp__law_due, mu_sp_law, n_sp_law, kd_sp_law, mu_sp__law_alike, n_sp__law_alike, kd_sp__law_alike, noMut_st, 
    kd_popped_by, mu_popped_by, n_popped_by, $ls,*])
local macro_rules | `(tactic| simp!) => `(tactic| simp only [lit_inj, shaped_lit, small_lit, len_lit, String.reduceEq, Nat.reduceLeDiff, upK_t, upK_f, noMutI_l, noMutI_d, evE_call, evE_v, evE_k, evE_dnew, evE_tup, evE_lst, 
    evE_bin, evE_cmp, evE_ch, evE_and, evE_or, andK_ok, orK_ok, evE_not, evE_ife, evE_bf, evE_isi, evE_ix, evE_sl, evE_vals, evE_me, evL_nil, evL_cons, evBL_nil, 
    evBL_cons, evO_no, evO_k, evT_def, evB_def, evSt_set, evSt_ife, evSt_ret, evSt_frz, evSt_app, evSt_sti, evSt_unp, retE_v, retE_k, retE_tup, retE_lst, retE_bin, 
    retE_cmp, retE_ch, retE_and, retE_or, retE_not, retE_ife, retE_call, retE_bf, retE_isi, retE_ix, retE_sl, retE_lc, brw_v, brw_k, brw_g, brw_neg, brw_tup, 
    brw_lst, brw_bin, brw_cmp, brw_ch, brw_and, brw_or, brw_not, brw_ife, brw_call, brw_bf, brw_isi, brw_ix, brw_sl, brw_lc, brw_vals, brw_ge, brw_dnew, brw_me, 
    bd_ok, bd_ok', exO_ok, exO_ok', lift_some, slotV_sh, slotB_sh, slotB_ow, toB_ok, toB_ok', ok_def, sc, callR_ok, bin_add, bin_sub, bin_mul, bin_div, bin_mod, 
    bf_len_l, bf_len_t, bf_len_d, bf_list_l, bf_list_t, bf_list_d, bf_tuple_l, bf_dict_d, bf_max, bf_int_b, cmp_gt, cmp_lt, cmp_le, cmp_ge, cmp_eqi, cmp_eqs, 
    cmp_nes, cmp_is, ix_l, ix_t, trE_ok, truthE, mul_l, mul_r, putS, mutOld_no, mutOld_sh, mutOld_ow, slotOf_t, slotOf_f, frzE, stiE, appE, keyOf_int0, isSc_int, 
    isSc_str, isSc_none, isSc_bool, noMut_int, noMut_str, noMut_none, noMut_bool, noMut_list, noMut_dict, List.getElem?_cons_succ, List.getElem?_cons_zero, 
    List.set_cons_succ, List.set_cons_zero, List.length_cons, List.length_nil, List.length_map, Nat.reduceAdd, Nat.reduceLT, Int.reduceLT, Int.reduceMul, 
    Int.reduceAdd, Int.reduceSub, Int.reduceNeg, Int.reduceLE, Int.reduceToNat, Nat.reducePow, Int.reducePow, Option.bind_some, bin_pow, bin_add_t, bin_add_l, 
    bin_add_s, sl_t, sl_l, isOwL_t, atI2, atI2i, isOw_t, and_self, true_and, and_true, if_true, if_false, Bool.false_eq_true, decide_true, decide_false, 
    decide_eq_true_eq, Option.map_some, Bool.or_true, Bool.true_and, Bool.and_true, Bool.false_or, Bool.or_false, Bool.false_and, Bool.and_false, Bool.true_or, 
    Bool.or_self, Bool.and_self, seqO_nx, seqO_rt, seqO_er, evSv_r, evSv_l, items_l, items_t, evS_l, evS_r, callK_ok, callK_b0, callK_b1, callK_b2, callK_b3, 
    callK_b4, eq_self, Int.toNat_natCast, isi_none_tuple_list, isi_none_tuple, isi_none_list, isi_none_str, isi_none_int, isi_none_bool, isi_none_dict, 
    isi_bool_tuple_list, isi_bool_tuple, isi_bool_list, isi_bool_str, isi_bool_int, isi_bool_bool, isi_bool_dict, isi_int_tuple_list, isi_int_tuple, isi_int_list, 
    isi_int_str, isi_int_int, isi_int_bool, isi_int_dict, isi_str_tuple_list, isi_str_tuple, isi_str_list, isi_str_str, isi_str_int, isi_str_bool, isi_str_dict, 
    isi_list_tuple_list, isi_list_tuple, isi_list_list, isi_list_str, isi_list_int, isi_list_bool, isi_list_dict, isi_tuple_tuple_list, isi_tuple_tuple, 
    isi_tuple_list, isi_tuple_str, isi_tuple_int, isi_tuple_bool, isi_tuple_dict, isi_dict_tuple_list, isi_dict_tuple, isi_dict_list, isi_dict_str, isi_dict_int, 
    isi_dict_bool, isi_dict_dict, cmp_nei, cmp_neb, cmp_eqb, cmp_isb, cmp_isnb, cmp_in_d, cmp_nin_d, ix_d, bf_all_l, Int.cast_ofNat_Int, Int.ofNat_zero, 
    Int.ofNat_one, Int.reduceEq, Int.reduceNe, Nat.reduceEqDiff, not_true_eq_false, not_false_eq_true, Bool.not_true, Bool.not_false, Bool.not_not, 
    Option.isSome_some, Option.isSome_none, Bool.not_eq_true, Bool.and_eq_true, Bool.or_eq_true, Bool.not_eq_false, putAll_nil, putAll_cons, hideE, evC_so, cmp_nn, 
    cmp_en, bf_sorted, evSt_tl, evTl_set, evTl_tst, evTl_wrk, loE_cons, loE_nil, loS_no, loS_sh, loS_ow, oldFree_nil, oldFree_no, oldFree_sh, oldFree_ow, ne_eq, 
    evE_neg, bf_min, evE_g, at_last, cut_init, evO_so, cmp_isnot, evSt_mat, evCs_nil, putB_nil, bf_max_l, mu_sp_is_number, n_sp_is_number, kd_sp_is_number, 
    mu_sp_thing_of, n_sp_thing_of, kd_sp_thing_of, mu_sp_is_box, n_sp_is_box, kd_sp_is_box, mu_sp_is_function, n_sp_is_function, kd_sp_is_function, mu_sp_new_number, 
    n_sp_new_number, kd_sp_new_number, mu_sp_spoken, n_sp_spoken, kd_sp_spoken, mu_sp_reckoned, n_sp_reckoned, kd_sp_reckoned, mu_sp_lacks_own, n_sp_lacks_own, 
    kd_sp_lacks_own, mu_sp_is_wrong_kind, n_sp_is_wrong_kind, kd_sp_is_wrong_kind, mu_sp_is_too_great, n_sp_is_too_great, kd_sp_is_too_great, mu_sp_is_full, 
    n_sp_is_full, kd_sp_is_full, mu_sp_stuck_word, n_sp_stuck_word, kd_sp_stuck_word, mu_sp_push, n_sp_push, kd_sp_push, mu_sp_keep, n_sp_keep, kd_sp_keep, 
    mu_sp_push_new, n_sp_push_new, kd_sp_push_new, mu_sp_go, n_sp_go, kd_sp_go, mu_sp_own_values, n_sp_own_values, kd_sp_own_values, mu_sp_do_instruction, 
    n_sp_do_instruction, kd_sp_do_instruction, mu_sp_stepped, n_sp_stepped, kd_sp_stepped, mu_sp__law_cell, n_sp__law_cell, kd_sp__law_cell, mu_sp__law_raw, 
    n_sp__law_raw, kd_sp__law_raw, mu_sp__law_whole, n_sp__law_whole, kd_sp__law_whole, mu_sp__law_number, n_sp__law_number, kd_sp__law_number, mu_sp__law_value, 
    n_sp__law_value, kd_sp__law_value, mu_sp__law_values, n_sp__law_values, kd_sp__law_values, mu_sp__law_names, n_sp__law_names, kd_sp__law_names, 
    mu_sp__law_things, n_sp__law_things, kd_sp__law_things, mu_sp__law_frame, n_sp__law_frame, kd_sp__law_frame, mu_sp__law_frames, n_sp__law_frames, 
    kd_sp__law_frames, mu_sp__law_row, n_sp__law_row, kd_sp__law_row, mu_sp__law_program, n_sp__law_program, kd_sp__law_program, mu_sp__law_state, n_sp__law_state, 
    kd_sp__law_state, mu_sp__law_topped, n_sp__law_topped, kd_sp__law_topped, mu_sp__law_same_things, n_sp__law_same_things, kd_sp__law_same_things, 
    mu_sp__law_same_state, n_sp__law_same_state, kd_sp__law_same_state, mu_sp__law_copy, n_sp__law_copy, kd_sp__law_copy, mu_sp__law_is_box, n_sp__law_is_box, 
    kd_sp__law_is_box, mu_sp__law_due, n_sp__law_due, kd_sp__law_due, mu_sp_law, n_sp_law, kd_sp_law, mu_sp__law_alike, n_sp__law_alike, kd_sp__law_alike, noMut_st, 
    kd_popped_by, mu_popped_by, n_popped_by])
theorem word3 {w : Str} (h : w = "box" ∨ w = "open" ∨ w = "fill") : shapedB (.str w) = true ∧ w ≠ "get" ∧ w ≠ "fun" ∧ w ≠ "call" ∧ w ≠ "say" ∧ w ∉ (["add", "minus", "times"] : List Str) ∧ w ∉ (["num", "get", "fun"] : List Str) ∧ w ∉ (["keep"] : List Str) ∧ w ∉ (["back"] : List Str) := by
  rcases h with rfl | rfl | rfl
  · exact ⟨by simp!, by decide, by decide, by decide, by decide, by decide, by decide, by decide, by decide⟩
  · exact ⟨by simp!, by decide, by decide, by decide, by decide, by decide, by decide, by decide, by decide⟩
  · exact ⟨by simp!, by decide, by decide, by decide, by decide, by decide, by decide, by decide, by decide⟩
theorem At.word (A : At bs ns ks fs es b pl own st body w) (hw : w = "box" ∨ w = "open" ∨ w = "fill") {k : Nat} {wk : Bool} (hk : sp_popped_by.F [.str w] = some (.ok (.int (k : Int), [])))
    (h2 : k ≤ st.length → sp_is_wrong_kind.F [.str w, .tuple (st.drop (st.length - k)), .dict es] = some (.ok (.bool wk, []))) :
    sp_stuck_word.F [.list (bs.map .list), .list (fs ++ [frm b pl own st]), .dict es] = some (.ok (if st.length < k then .str "empty" else if wk = true then .str "kind" else .none, [])) := by
  obtain ⟨w1, w2, w3, w4, w5, w6, w7, w8, w9⟩ := word3 hw
  rw [stuck_gen A.hb A.hp w1 hk (lacks_one w2 w3) (fun q _ => h2 q) (fun _ _ _ => great_none w6) (full_none w7 w8 w9)]
  have e : hindD w st.length k (fs.length + 1) false wk false false = if st.length < k then .str "empty" else if wk = true then .str "kind" else .none := by
    unfold hindD
    simp only [Bool.false_eq_true, if_false, w4, false_and]
  rw [e]
theorem pop1 : sp_popped_by.F [.str "box"] = some (.ok (.int ((1 : Nat) : Int), [])) ∧ sp_popped_by.F [.str "open"] = some (.ok (.int ((1 : Nat) : Int), [])) ∧ sp_popped_by.F [.str "fill"] = some (.ok (.int ((2 : Nat) : Int), [])) := ⟨rfl, rfl, rfl⟩
theorem At.empty (A : At bs ns ks fs es b pl own st body w) {k : Nat} (hw : (w = "box" ∧ k = 1) ∨ (w = "open" ∧ k = 1) ∨ (w = "fill" ∧ k = 2)) (hl : st.length < k) :
    ∃ e' fs' es', AnsOk e' fs' es' ∧ sp_stepped.F [.list (bs.map .list), stD fs es b pl own st] = some (.ok (ansD e' fs' es', [])) ∧ sp__law_due.F [.tuple [.str w], stD fs es b pl own st, frm b pl own st] = some (.ok (ansD e' fs' es', [])) := by
  have hk : sp_popped_by.F [.str w] = some (.ok (.int (k : Int), [])) := by
    rcases hw with ⟨rfl, rfl⟩ | ⟨rfl, rfl⟩ | ⟨rfl, rfl⟩
    · exact pop1.1
    · exact pop1.2.1
    · exact pop1.2.2
  have hw3 : w = "box" ∨ w = "open" ∨ w = "fill" := by
    rcases hw with h | h | h
    · exact .inl h.1
    · exact .inr (.inl h.1)
    · exact .inr (.inr h.1)
  have := A.word (wk := false) hw3 hk fun q => absurd q (by omega)
  rw [if_pos hl] at this
  exact A.stuck (by simp!) this (due_empty hw hl)
theorem drop1 {st : List R.D} {v : R.D} : (st ++ [v]).drop ((st ++ [v]).length - 1) = [v] ∧ (st ++ [v]).take ((st ++ [v]).length - 1) = st := by
  rw [len_last, Nat.add_sub_cancel]
  simp
theorem drop2 {st : List R.D} {u v : R.D} : (st ++ [u, v]).drop ((st ++ [u, v]).length - 2) = [u, v] ∧ (st ++ [u, v]).take ((st ++ [u, v]).length - 2) = st := by
  have : (st ++ [u, v]).length - 2 = st.length := by rw [List.length_append]; rfl
  rw [this]
  simp
theorem VsD.cut {ns : List Int} {xs ys : List R.D} (h : VsD ns 60 (xs ++ ys)) : VsD ns 60 xs := ⟨by have := h.1; rw [List.length_append] at this; omega, fun d hd => h.2 d (List.mem_append_left _ hd)⟩
theorem VsD.swap {ns : List Int} {xs : List R.D} {y z : R.D} (h : VsD ns 60 (xs ++ [y])) (hz : VD ns z) : VsD ns 60 (xs ++ [z]) := ⟨by have := h.1; rw [len_last] at this ⊢; exact this, fun d hd => by
  rcases List.mem_append.mp hd with q | q
  · exact h.2 d (List.mem_append_left _ q)
  · rw [List.mem_singleton.mp q]; exact hz⟩
theorem At.box {v : R.D} (A : At bs ns ks fs es b pl own (st ++ [v]) body "box") :
    ∃ e' fs' es', AnsOk e' fs' es' ∧ sp_stepped.F [.list (bs.map .list), stD fs es b pl own (st ++ [v])] = some (.ok (ansD e' fs' es', [])) ∧ sp__law_due.F [.tuple [.str "box"], stD fs es b pl own (st ++ [v]), frm b pl own (st ++ [v])] = some (.ok (ansD e' fs' es', [])) := by
  have hl : lenOk (st.length + 1) = true := lenOk_of (by have := A.vs.1; rw [len_last] at this; omega)
  have hle : lenOk es.length = true := lenOk_of (by have := A.el; omega)
  have hl2 : lenOk (fs.length + 1) = true := lenOk_of (by have := A.fl; omega)
  have hv : VD ns v := A.vs.2 v (List.mem_append_right _ (List.mem_singleton.mpr rfl))
  have hs := A.word (.inl rfl) (wk := false) pop1.1 fun _ => kind_none (by decide) (by decide) (by decide)
  have hlt : ¬ (st ++ [v]).length < 1 := by rw [len_last]; omega
  rw [if_neg hlt, if_neg (by decide)] at hs
  have up : ∀ n, n ∈ ns → n ∈ newN ks :: ns := fun n h => List.mem_cons_of_mem _ h
  have hat : VD (newN ks :: ns) (.tuple [.str "at", .int (newN ks)]) := .inr ⟨newN ks, List.mem_cons_self, rfl⟩
  have hfr : ∀ f, f ∈ fs ++ [frm b ((pl + 1 : Nat) : Int) own (st ++ [.tuple [.str "at", .int (newN ks)]])] → FrW (newN ks :: ns) f := fw_app (fun f hf => (A.fr f hf).mono up) (frm_w (A.vo.mono up) ((A.vs.mono up).swap hat))
  have hts : TsD (newN ks :: ns) bs.length (dputE es (.inl (newN ks)) (.tuple [.str "box", v])) := (A.dm.ts.mono up).put List.mem_cons_self (.inl ⟨v, hv.mono up, rfl⟩) (by have := A.el; omega)
  have hfl : (fs ++ [frm b ((pl + 1 : Nat) : Int) own (st ++ [.tuple [.str "at", .int (newN ks)]])]).length ≤ 1000 := by rw [len_last]; have := A.fl; omega
  have ep : ((pl + 1 : Nat) : Int) = (pl : Int) + 1 := rfl
  rw [ep] at hfr hfl
  have hd := do_box (v := v) (b := (b : Int)) (p := (pl : Int) + 1) (own := own) A.dm.keys (fs := fs) (st := st) hl (frs_nm hfr) hle
  refine ⟨_, _, _, ans_of (T := hts) alk_none hfr hfl, stepped_go (k := 1) A.hb A.hp (by simp!) pop1.1 (by omega) hl2 hs ?_ (frs_nm hfr) hts.nm A.vs.nm (.inl ⟨by simp, rfl⟩) (.inl ⟨by decide, rfl⟩), due_box A.dm.keys A.k0 hl hle hl2⟩
  rw [drop1.2, drop1.1]
  exact hd
theorem box_of {nb : Int} {v : R.D} (Dm : Dom ns ks nb es) (hv : VD ns v) (h : kindB "box" (thOf es v) = true) : ∃ n u, v = .tuple [.str "at", .int n] ∧ n ∈ ns ∧ dgetE es (.inl n) = some (.tuple [.str "box", u]) ∧ VD ns u := by
  rcases hv with ⟨z, rfl, _⟩ | ⟨n, hn, rfl⟩
  · cases h
  · obtain ⟨t, e, ht⟩ := Dm.get hn
    have et : thOf es (.tuple [.str "at", .int n]) = t := by
      show (dgetE es (.inl n)).getD .none = t
      rw [e]; rfl
    rw [et] at h
    rcases ht with ⟨u, hu, rfl⟩ | ⟨b, kk, _, _, _, _, rfl⟩
    · exact ⟨n, u, rfl, hn, e, hu⟩
    · exact absurd (show decide (("fun" : Str) = "box") = true from h) (by decide)
theorem At.open {v : R.D} (A : At bs ns ks fs es b pl own (st ++ [v]) body "open") :
    ∃ e' fs' es', AnsOk e' fs' es' ∧ sp_stepped.F [.list (bs.map .list), stD fs es b pl own (st ++ [v])] = some (.ok (ansD e' fs' es', [])) ∧ sp__law_due.F [.tuple [.str "open"], stD fs es b pl own (st ++ [v]), frm b pl own (st ++ [v])] = some (.ok (ansD e' fs' es', [])) := by
  have hl : lenOk (st.length + 1) = true := lenOk_of (by have := A.vs.1; rw [len_last] at this; omega)
  have hl2 : lenOk (fs.length + 1) = true := lenOk_of (by have := A.fl; omega)
  have hv : VD ns v := A.vs.2 v (List.mem_append_right _ (List.mem_singleton.mpr rfl))
  have hs := A.word (.inr (.inl rfl)) (wk := !kindB "box" (thOf es v)) pop1.2.1 fun _ => by
    rw [drop1.1]
    exact kind_box A.dm hv (by decide)
  have hlt : ¬ (st ++ [v]).length < 1 := by rw [len_last]; omega
  rw [if_neg hlt] at hs
  cases hb : kindB "box" (thOf es v) with
  | false =>
    rw [hb, if_pos (by decide)] at hs
    exact A.stuck (by simp!) hs (due_kind_open (by rw [law_is_box_ok A.dm hv, hb]))
  | true =>
    rw [hb, if_neg (by decide)] at hs
    obtain ⟨n, u, rfl, hn, hg, hu⟩ := box_of A.dm hv hb
    have hfr : ∀ f, f ∈ fs ++ [frm b ((pl + 1 : Nat) : Int) own (st ++ [u])] → FrW ns f := fw_app A.fr (frm_w A.vo (A.vs.swap hu))
    have hfl : (fs ++ [frm b ((pl + 1 : Nat) : Int) own (st ++ [u])]).length ≤ 1000 := by rw [len_last]; have := A.fl; omega
    have ep : ((pl + 1 : Nat) : Int) = (pl : Int) + 1 := rfl
    rw [ep] at hfr hfl
    have hd := do_open (b := (b : Int)) (p := (pl : Int) + 1) (own := own) (fs := fs) (st := st) hl hg
    refine ⟨_, _, _, ans_of (T := A.dm.ts) alk_none hfr hfl, stepped_go (k := 1) A.hb A.hp (by simp!) pop1.2.1 (by omega) hl2 hs ?_ (frs_nm hfr) A.dm.ts.nm A.vs.nm (.inl ⟨by simp, rfl⟩) (.inl ⟨by decide, rfl⟩), due_open (by rw [law_is_box_ok A.dm hv, hb]) hg hl hl2⟩
    rw [drop1.2, drop1.1]
    exact hd
theorem At.fill {u v : R.D} (A : At bs ns ks fs es b pl own (st ++ [u, v]) body "fill") :
    ∃ e' fs' es', AnsOk e' fs' es' ∧ sp_stepped.F [.list (bs.map .list), stD fs es b pl own (st ++ [u, v])] = some (.ok (ansD e' fs' es', [])) ∧ sp__law_due.F [.tuple [.str "fill"], stD fs es b pl own (st ++ [u, v]), frm b pl own (st ++ [u, v])] = some (.ok (ansD e' fs' es', [])) := by
  have hle : lenOk es.length = true := lenOk_of (by have := A.el; omega)
  have hl2 : lenOk (fs.length + 1) = true := lenOk_of (by have := A.fl; omega)
  have hu : VD ns u := A.vs.2 u (List.mem_append_right _ List.mem_cons_self)
  have hv : VD ns v := A.vs.2 v (List.mem_append_right _ (List.mem_cons_of_mem _ List.mem_cons_self))
  have hs := A.word (.inr (.inr rfl)) (wk := !kindB "box" (thOf es u)) pop1.2.2 fun _ => by
    rw [drop2.1]
    exact kind_box A.dm hu (by decide)
  have hlt : ¬ (st ++ [u, v]).length < 2 := by rw [List.length_append]; simp only [List.length_cons, List.length_nil]; omega
  rw [if_neg hlt] at hs
  cases hb : kindB "box" (thOf es u) with
  | false =>
    rw [hb, if_pos (by decide)] at hs
    exact A.stuck (by simp!) hs (due_kind_fill (by rw [law_is_box_ok A.dm hu, hb]))
  | true =>
    rw [hb, if_neg (by decide)] at hs
    obtain ⟨n, z, rfl, hn, hg, hz⟩ := box_of A.dm hu hb
    have hfr : ∀ f, f ∈ fs ++ [frm b ((pl + 1 : Nat) : Int) own st] → FrW ns f := fw_app A.fr (frm_w A.vo A.vs.cut)
    have hfl : (fs ++ [frm b ((pl + 1 : Nat) : Int) own st]).length ≤ 1000 := by rw [len_last]; have := A.fl; omega
    have hts : TsD ns bs.length (dputE es (.inl n) (.tuple [.str "box", v])) := A.dm.ts.put hn (.inl ⟨v, hv, rfl⟩) (by have := A.el; omega)
    have ep : ((pl + 1 : Nat) : Int) = (pl : Int) + 1 := rfl
    rw [ep] at hfr hfl
    have hd := do_fill (fs := fs ++ [frm b ((pl : Int) + 1) own st]) (n := n) (u := v) hle
    refine ⟨_, _, _, ans_of (T := hts) alk_none hfr hfl, stepped_go (k := 2) A.hb A.hp (by simp!) pop1.2.2 (by omega) hl2 hs ?_ (frs_nm hfr) hts.nm A.vs.nm (.inl ⟨by simp, rfl⟩) (.inl ⟨by decide, rfl⟩), due_fill (by rw [law_is_box_ok A.dm hu, hb]) hle hl2⟩
    rw [drop2.2, drop2.1]
    exact hd
theorem split1 : ∀ {st : List R.D}, ¬ st.length < 1 → ∃ s0 v, st = s0 ++ [v] := fun {st} h => ⟨st.dropLast, st.getLast (by rintro rfl; simp at h), (List.dropLast_concat_getLast _).symm⟩
theorem split2 {st : List R.D} (h : ¬ st.length < 2) : ∃ s0 u v, st = s0 ++ [u, v] := by
  obtain ⟨s1, v, rfl⟩ := split1 (st := st) (by omega)
  rw [len_last] at h
  obtain ⟨s0, u, rfl⟩ := split1 (st := s1) (by omega)
  exact ⟨s0, u, v, by rw [List.append_assoc]; rfl⟩
theorem At.core (A : At bs ns ks fs es b pl own st body w) (hw : w = "box" ∨ w = "open" ∨ w = "fill") :
    ∃ e' fs' es', AnsOk e' fs' es' ∧ sp_stepped.F [.list (bs.map .list), stD fs es b pl own st] = some (.ok (ansD e' fs' es', [])) ∧ sp__law_due.F [.tuple [.str w], stD fs es b pl own st, frm b pl own st] = some (.ok (ansD e' fs' es', [])) := by
  rcases hw with rfl | rfl | rfl
  · by_cases h : st.length < 1
    · exact A.empty (.inl ⟨rfl, rfl⟩) h
    · obtain ⟨s0, v, rfl⟩ := split1 h
      exact A.box
  · by_cases h : st.length < 1
    · exact A.empty (.inr (.inl ⟨rfl, rfl⟩)) h
    · obtain ⟨s0, v, rfl⟩ := split1 h
      exact A.open
  · by_cases h : st.length < 2
    · exact A.empty (.inr (.inr ⟨rfl, rfl⟩)) h
    · obtain ⟨s0, u, v, rfl⟩ := split2 h
      exact A.fill
end
end K03RWA
namespace K03RWA
open PySem PySem.Spec PyProof.Rows L2 R
def w3 : List Str := ["box", "open", "fill"]
def w4 : List Str := ["box", "open", "fill", "drop"]
local macro_rules | `(tactic| simp! [$ls,*]) => `(tactic| simp only [lit_inj, shaped_lit, small_lit, len_lit, String.reduceEq, Nat.reduceLeDiff, upK_t, upK_f, noMutI_l, noMutI_d, evE_call, evE_v, evE_k, evE_dnew, evE_tup, evE_lst, 
    evE_bin, evE_cmp, evE_ch, evE_and, evE_or, andK_ok, orK_ok, evE_not, evE_ife, evE_bf, evE_isi, evE_ix, evE_sl, evE_vals, evE_me, evL_nil, evL_cons, evBL_nil, 
    evBL_cons, evO_no, evO_k, evT_def, evB_def, evSt_set, evSt_ife, evSt_ret, evSt_frz, evSt_app, evSt_sti, evSt_unp, retE_v, retE_k, retE_tup, retE_lst, retE_bin, 
    retE_cmp, retE_ch, retE_and, retE_or, retE_not, retE_ife, retE_call, retE_bf, retE_isi, retE_ix, retE_sl, retE_lc, brw_v, brw_k, brw_g, brw_neg, brw_tup, 
    brw_lst, brw_bin, brw_cmp, brw_ch, brw_and, brw_or, brw_not, brw_ife, brw_call, brw_bf, brw_isi, brw_ix, brw_sl, brw_lc, brw_vals, brw_ge, brw_dnew, brw_me, 
    bd_ok, bd_ok', exO_ok, exO_ok', lift_some, slotV_sh, slotB_sh, slotB_ow, toB_ok, toB_ok', ok_def, sc, callR_ok, bin_add, bin_sub, bin_mul, bin_div, bin_mod, 
    bf_len_l, bf_len_t, bf_len_d, bf_list_l, bf_list_t, bf_list_d, bf_tuple_l, bf_dict_d, bf_max, bf_int_b, cmp_gt, cmp_lt, cmp_le, cmp_ge, cmp_eqi, cmp_eqs, 
    cmp_nes, cmp_is, ix_l, ix_t, trE_ok, truthE, mul_l, mul_r, putS, mutOld_no, mutOld_sh, mutOld_ow, slotOf_t, slotOf_f, frzE, stiE, appE, keyOf_int0, isSc_int, 
    isSc_str, isSc_none, isSc_bool, noMut_int, noMut_str, noMut_none, noMut_bool, noMut_list, noMut_dict, List.getElem?_cons_succ, List.getElem?_cons_zero, 
    List.set_cons_succ, List.set_cons_zero, List.length_cons, List.length_nil, List.length_map, Nat.reduceAdd, Nat.reduceLT, Int.reduceLT, Int.reduceMul, 
    Int.reduceAdd, Int.reduceSub, Int.reduceNeg, Int.reduceLE, Int.reduceToNat, Nat.reducePow, Int.reducePow, Option.bind_some, bin_pow, bin_add_t, bin_add_l, 
    bin_add_s, sl_t, sl_l, isOwL_t, atI2, atI2i, isOw_t, and_self, true_and, and_true, if_true, if_false, Bool.false_eq_true, decide_true, decide_false, 
    decide_eq_true_eq, Option.map_some, Bool.or_true, Bool.true_and, Bool.and_true, Bool.false_or, Bool.or_false, Bool.false_and, Bool.and_false, Bool.true_or, 
    Bool.or_self, Bool.and_self, seqO_nx, seqO_rt, seqO_er, evSv_r, evSv_l, items_l, items_t, evS_l, evS_r, callK_ok, callK_b0, callK_b1, callK_b2, callK_b3, 
    callK_b4, eq_self, Int.toNat_natCast, isi_none_tuple_list, isi_none_tuple, isi_none_list, isi_none_str, isi_none_int, isi_none_bool, isi_none_dict, 
    isi_bool_tuple_list, isi_bool_tuple, isi_bool_list, isi_bool_str, isi_bool_int, isi_bool_bool, isi_bool_dict, isi_int_tuple_list, isi_int_tuple, isi_int_list, 
    isi_int_str, isi_int_int, isi_int_bool, isi_int_dict, isi_str_tuple_list, isi_str_tuple, isi_str_list, isi_str_str, isi_str_int, isi_str_bool, isi_str_dict, 
    isi_list_tuple_list, isi_list_tuple, isi_list_list, isi_list_str, isi_list_int, isi_list_bool, isi_list_dict, isi_tuple_tuple_list, isi_tuple_tuple, 
    isi_tuple_list, isi_tuple_str, isi_tuple_int, isi_tuple_bool, isi_tuple_dict, isi_dict_tuple_list, isi_dict_tuple, isi_dict_list, isi_dict_str, isi_dict_int, 
    isi_dict_bool, isi_dict_dict, cmp_nei, cmp_neb, cmp_eqb, cmp_isb, cmp_isnb, cmp_in_d, cmp_nin_d, ix_d, bf_all_l, Int.cast_ofNat_Int, Int.ofNat_zero, 
    Int.ofNat_one, Int.reduceEq, Int.reduceNe, Nat.reduceEqDiff, not_true_eq_false, not_false_eq_true, Bool.not_true, Bool.not_false, Bool.not_not, 
    Option.isSome_some, Option.isSome_none, Bool.not_eq_true, Bool.and_eq_true, Bool.or_eq_true, Bool.not_eq_false, putAll_nil, putAll_cons, hideE, evC_so, cmp_nn, 
    cmp_en, bf_sorted, evSt_tl, evTl_set, evTl_tst, evTl_wrk, loE_cons, loE_nil, loS_no, loS_sh, loS_ow, oldFree_nil, oldFree_no, oldFree_sh, oldFree_ow, ne_eq, 
    evE_neg, bf_min, evE_g, at_last, cut_init, evO_so, cmp_isnot, evSt_mat, evCs_nil, putB_nil, bf_max_l, mu_sp_is_number, n_sp_is_number, kd_sp_is_number, 
    mu_sp_thing_of, n_sp_thing_of, kd_sp_thing_of, mu_sp_is_box, n_sp_is_box, kd_sp_is_box, mu_sp_is_function, n_sp_is_function, kd_sp_is_function, mu_sp_new_number, 
    n_sp_new_number, kd_sp_new_number, mu_sp_spoken, n_sp_spoken, kd_sp_spoken, mu_sp_reckoned, n_sp_reckoned, kd_sp_reckoned, mu_sp_lacks_own, n_sp_lacks_own, 
    kd_sp_lacks_own, mu_sp_is_wrong_kind, n_sp_is_wrong_kind, kd_sp_is_wrong_kind, mu_sp_is_too_great, n_sp_is_too_great, kd_sp_is_too_great, mu_sp_is_full, 
    n_sp_is_full, kd_sp_is_full, mu_sp_stuck_word, n_sp_stuck_word, kd_sp_stuck_word, mu_sp_push, n_sp_push, kd_sp_push, mu_sp_keep, n_sp_keep, kd_sp_keep, 
    mu_sp_push_new, n_sp_push_new, kd_sp_push_new, mu_sp_go, n_sp_go, kd_sp_go, mu_sp_own_values, n_sp_own_values, kd_sp_own_values, mu_sp_do_instruction, 
    n_sp_do_instruction, kd_sp_do_instruction, mu_sp_stepped, n_sp_stepped, kd_sp_stepped, mu_sp__law_cell, n_sp__law_cell, kd_sp__law_cell, mu_sp__law_raw, 
    n_sp__law_raw, kd_sp__law_raw, mu_sp__law_whole, n_sp__law_whole, kd_sp__law_whole, mu_sp__law_number, n_sp__law_number, kd_sp__law_number, mu_sp__law_value, 
    n_sp__law_value, kd_sp__law_value, mu_sp__law_values, n_sp__law_values, kd_sp__law_values, mu_sp__law_names, n_sp__law_names, kd_sp__law_names, 
    mu_sp__law_things, n_sp__law_things, kd_sp__law_things, mu_sp__law_frame, n_sp__law_frame, kd_sp__law_frame, mu_sp__law_frames, n_sp__law_frames, 
    kd_sp__law_frames, mu_sp__law_row, n_sp__law_row, kd_sp__law_row, mu_sp__law_program, n_sp__law_program, kd_sp__law_program, mu_sp__law_state, n_sp__law_state, 
    kd_sp__law_state, mu_sp__law_topped, n_sp__law_topped, kd_sp__law_topped, mu_sp__law_same_things, n_sp__law_same_things, kd_sp__law_same_things, 
    mu_sp__law_same_state, n_sp__law_same_state, kd_sp__law_same_state, mu_sp__law_copy, n_sp__law_copy, kd_sp__law_copy, mu_sp__law_is_box, n_sp__law_is_box, 
    kd_sp__law_is_box, mu_sp__law_due, n_sp__law_due, kd_sp__law_due, mu_sp_law, n_sp_law, kd_sp_law, mu_sp__law_alike, n_sp__law_alike, kd_sp__law_alike, noMut_st, 
    kd_popped_by, mu_popped_by, n_popped_by, $ls,*])
local macro_rules | `(tactic| simp!) => `(tactic| simp only [lit_inj, shaped_lit, small_lit, len_lit, String.reduceEq, Nat.reduceLeDiff, upK_t, upK_f, noMutI_l, noMutI_d, evE_call, evE_v, evE_k, evE_dnew, evE_tup, evE_lst, 
    evE_bin, evE_cmp, evE_ch, evE_and, evE_or, andK_ok, orK_ok, evE_not, evE_ife, evE_bf, evE_isi, evE_ix, evE_sl, evE_vals, evE_me, evL_nil, evL_cons, evBL_nil, 
    evBL_cons, evO_no, evO_k, evT_def, evB_def, evSt_set, evSt_ife, evSt_ret, evSt_frz, evSt_app, evSt_sti, evSt_unp, retE_v, retE_k, retE_tup, retE_lst, retE_bin, 
    retE_cmp, retE_ch, retE_and, retE_or, retE_not, retE_ife, retE_call, retE_bf, retE_isi, retE_ix, retE_sl, retE_lc, brw_v, brw_k, brw_g, brw_neg, brw_tup, 
    brw_lst, brw_bin, brw_cmp, brw_ch, brw_and, brw_or, brw_not, brw_ife, brw_call, brw_bf, brw_isi, brw_ix, brw_sl, brw_lc, brw_vals, brw_ge, brw_dnew, brw_me, 
    bd_ok, bd_ok', exO_ok, exO_ok', lift_some, slotV_sh, slotB_sh, slotB_ow, toB_ok, toB_ok', ok_def, sc, callR_ok, bin_add, bin_sub, bin_mul, bin_div, bin_mod, 
    bf_len_l, bf_len_t, bf_len_d, bf_list_l, bf_list_t, bf_list_d, bf_tuple_l, bf_dict_d, bf_max, bf_int_b, cmp_gt, cmp_lt, cmp_le, cmp_ge, cmp_eqi, cmp_eqs, 
    cmp_nes, cmp_is, ix_l, ix_t, trE_ok, truthE, mul_l, mul_r, putS, mutOld_no, mutOld_sh, mutOld_ow, slotOf_t, slotOf_f, frzE, stiE, appE, keyOf_int0, isSc_int, 
    isSc_str, isSc_none, isSc_bool, noMut_int, noMut_str, noMut_none, noMut_bool, noMut_list, noMut_dict, List.getElem?_cons_succ, List.getElem?_cons_zero, 
    List.set_cons_succ, List.set_cons_zero, List.length_cons, List.length_nil, List.length_map, Nat.reduceAdd, Nat.reduceLT, Int.reduceLT, Int.reduceMul, 
    Int.reduceAdd, Int.reduceSub, Int.reduceNeg, Int.reduceLE, Int.reduceToNat, Nat.reducePow, Int.reducePow, Option.bind_some, bin_pow, bin_add_t, bin_add_l, 
    bin_add_s, sl_t, sl_l, isOwL_t, atI2, atI2i, isOw_t, and_self, true_and, and_true, if_true, if_false, Bool.false_eq_true, decide_true, decide_false, 
    decide_eq_true_eq, Option.map_some, Bool.or_true, Bool.true_and, Bool.and_true, Bool.false_or, Bool.or_false, Bool.false_and, Bool.and_false, Bool.true_or, 
    Bool.or_self, Bool.and_self, seqO_nx, seqO_rt, seqO_er, evSv_r, evSv_l, items_l, items_t, evS_l, evS_r, callK_ok, callK_b0, callK_b1, callK_b2, callK_b3, 
    callK_b4, eq_self, Int.toNat_natCast, isi_none_tuple_list, isi_none_tuple, isi_none_list, isi_none_str, isi_none_int, isi_none_bool, isi_none_dict, 
    isi_bool_tuple_list, isi_bool_tuple, isi_bool_list, isi_bool_str, isi_bool_int, isi_bool_bool, isi_bool_dict, isi_int_tuple_list, isi_int_tuple, isi_int_list, 
    isi_int_str, isi_int_int, isi_int_bool, isi_int_dict, isi_str_tuple_list, isi_str_tuple, isi_str_list, isi_str_str, isi_str_int, isi_str_bool, isi_str_dict, 
    isi_list_tuple_list, isi_list_tuple, isi_list_list, isi_list_str, isi_list_int, isi_list_bool, isi_list_dict, isi_tuple_tuple_list, isi_tuple_tuple, 
    isi_tuple_list, isi_tuple_str, isi_tuple_int, isi_tuple_bool, isi_tuple_dict, isi_dict_tuple_list, isi_dict_tuple, isi_dict_list, isi_dict_str, isi_dict_int, 
    isi_dict_bool, isi_dict_dict, cmp_nei, cmp_neb, cmp_eqb, cmp_isb, cmp_isnb, cmp_in_d, cmp_nin_d, ix_d, bf_all_l, Int.cast_ofNat_Int, Int.ofNat_zero, 
    Int.ofNat_one, Int.reduceEq, Int.reduceNe, Nat.reduceEqDiff, not_true_eq_false, not_false_eq_true, Bool.not_true, Bool.not_false, Bool.not_not, 
    Option.isSome_some, Option.isSome_none, Bool.not_eq_true, Bool.and_eq_true, Bool.or_eq_true, Bool.not_eq_false, putAll_nil, putAll_cons, hideE, evC_so, cmp_nn, 
    cmp_en, bf_sorted, evSt_tl, evTl_set, evTl_tst, evTl_wrk, loE_cons, loE_nil, loS_no, loS_sh, loS_ow, oldFree_nil, oldFree_no, oldFree_sh, oldFree_ow, ne_eq, 
    evE_neg, bf_min, evE_g, at_last, cut_init, evO_so, cmp_isnot, evSt_mat, evCs_nil, putB_nil, bf_max_l, mu_sp_is_number, n_sp_is_number, kd_sp_is_number, 
    mu_sp_thing_of, n_sp_thing_of, kd_sp_thing_of, mu_sp_is_box, n_sp_is_box, kd_sp_is_box, mu_sp_is_function, n_sp_is_function, kd_sp_is_function, mu_sp_new_number, 
    n_sp_new_number, kd_sp_new_number, mu_sp_spoken, n_sp_spoken, kd_sp_spoken, mu_sp_reckoned, n_sp_reckoned, kd_sp_reckoned, mu_sp_lacks_own, n_sp_lacks_own, 
    kd_sp_lacks_own, mu_sp_is_wrong_kind, n_sp_is_wrong_kind, kd_sp_is_wrong_kind, mu_sp_is_too_great, n_sp_is_too_great, kd_sp_is_too_great, mu_sp_is_full, 
    n_sp_is_full, kd_sp_is_full, mu_sp_stuck_word, n_sp_stuck_word, kd_sp_stuck_word, mu_sp_push, n_sp_push, kd_sp_push, mu_sp_keep, n_sp_keep, kd_sp_keep, 
    mu_sp_push_new, n_sp_push_new, kd_sp_push_new, mu_sp_go, n_sp_go, kd_sp_go, mu_sp_own_values, n_sp_own_values, kd_sp_own_values, mu_sp_do_instruction, 
    n_sp_do_instruction, kd_sp_do_instruction, mu_sp_stepped, n_sp_stepped, kd_sp_stepped, mu_sp__law_cell, n_sp__law_cell, kd_sp__law_cell, mu_sp__law_raw, 
    n_sp__law_raw, kd_sp__law_raw, mu_sp__law_whole, n_sp__law_whole, kd_sp__law_whole, mu_sp__law_number, n_sp__law_number, kd_sp__law_number, mu_sp__law_value, 
    n_sp__law_value, kd_sp__law_value, mu_sp__law_values, n_sp__law_values, kd_sp__law_values, mu_sp__law_names, n_sp__law_names, kd_sp__law_names, 
    mu_sp__law_things, n_sp__law_things, kd_sp__law_things, mu_sp__law_frame, n_sp__law_frame, kd_sp__law_frame, mu_sp__law_frames, n_sp__law_frames, 
    kd_sp__law_frames, mu_sp__law_row, n_sp__law_row, kd_sp__law_row, mu_sp__law_program, n_sp__law_program, kd_sp__law_program, mu_sp__law_state, n_sp__law_state, 
    kd_sp__law_state, mu_sp__law_topped, n_sp__law_topped, kd_sp__law_topped, mu_sp__law_same_things, n_sp__law_same_things, kd_sp__law_same_things, 
    mu_sp__law_same_state, n_sp__law_same_state, kd_sp__law_same_state, mu_sp__law_copy, n_sp__law_copy, kd_sp__law_copy, mu_sp__law_is_box, n_sp__law_is_box, 
    kd_sp__law_is_box, mu_sp__law_due, n_sp__law_due, kd_sp__law_due, mu_sp_law, n_sp_law, kd_sp_law, mu_sp__law_alike, n_sp__law_alike, kd_sp__law_alike, noMut_st, 
    kd_popped_by, mu_popped_by, n_popped_by])
theorem w3_shaped : ∀ w, w ∈ w3 → shapedB (.str w) = true := fun w h => by
  unfold w3 at h
  simp only [List.mem_cons, List.mem_nil_iff, or_false] at h
  rcases h with rfl | rfl | rfl <;> simp!
theorem w4_shaped : ∀ w, w ∈ w4 → shapedB (.str w) = true := fun w h => by
  unfold w4 at h
  simp only [List.mem_cons, List.mem_nil_iff, or_false] at h
  rcases h with rfl | rfl | rfl | rfl <;> simp!
theorem row_w3 {nb size : Int} {d : R.D} (h : InsD w3 nb size d) : ∃ w : Str, (w = "box" ∨ w = "open" ∨ w = "fill") ∧ d = .tuple [.str w] := by
  have e : ∀ w, w ∈ w3 → w = "box" ∨ w = "open" ∨ w = "fill" := fun w h => by
    unfold w3 at h
    simp only [List.mem_cons, List.mem_nil_iff, or_false] at h
    exact h
  rcases h with ⟨h, _⟩ | ⟨h, _⟩ | ⟨h, _⟩ | ⟨w, p, h, h2, _⟩ | ⟨w, h, _, _, _, _, _, h2⟩
  · rcases e _ h with q | q | q <;> exact absurd q (by decide)
  · rcases e _ h with q | q | q <;> exact absurd q (by decide)
  · rcases e _ h with q | q | q <;> exact absurd q (by decide)
  · rcases h2 with rfl | rfl
    · rcases e _ h with q | q | q <;> exact absurd q (by decide)
    · rcases e _ h with q | q | q <;> exact absurd q (by decide)
  · exact ⟨w, e w h, h2⟩
theorem InsD.alk {ws : List Str} {nb size : Int} {d : R.D} (hws : ∀ w, w ∈ ws → shapedB (.str w) = true) (h : InsD ws nb size d) : Alk 4 d := by
  rcases h with ⟨h, z, _, _, rfl⟩ | ⟨h, z, _, _, rfl⟩ | ⟨h, f, ks, _, _, kl, hk, rfl⟩ | ⟨w, p, h, _, _, _, rfl⟩ | ⟨w, h, _, _, _, _, _, rfl⟩
  · refine ⟨by simp, fun x hx => ?_⟩
    simp only [List.mem_cons, List.mem_nil_iff, or_false] at hx
    rcases hx with rfl | rfl
    · exact hws _ h
    · exact trivial
  · refine ⟨by simp, fun x hx => ?_⟩
    simp only [List.mem_cons, List.mem_nil_iff, or_false] at hx
    rcases hx with rfl | rfl
    · exact hws _ h
    · exact trivial
  · refine ⟨by simp, fun x hx => ?_⟩
    simp only [List.mem_cons, List.mem_nil_iff, or_false] at hx
    rcases hx with rfl | rfl | rfl
    · exact hws _ h
    · exact trivial
    · refine ⟨by omega, fun x hx => ?_⟩
      obtain ⟨k, _, _, rfl⟩ := hk x hx
      exact trivial
  · refine ⟨by simp, fun x hx => ?_⟩
    simp only [List.mem_cons, List.mem_nil_iff, or_false] at hx
    rcases hx with rfl | rfl
    · exact hws _ h
    · exact trivial
  · refine ⟨by simp, fun x hx => ?_⟩
    simp only [List.mem_cons, List.mem_nil_iff, or_false] at hx
    rw [hx]
    exact hws _ h
theorem law_ok (s : List Int) (hl : s.length ≤ 63) : sp_law.F [.list (s.map .int)] = some (.ok (.bool true, [])) := by
  have hk : ∃ ft : R.FT, ft.fn "_law_program" = some sp__law_program ∧ ft.fn "_law_state" = some sp__law_state ∧ ft.fn "_law_topped" = some sp__law_topped ∧ ft.fn "_law_copy" = some sp__law_copy ∧ ft.fn "stepped" = some sp_stepped ∧ ft.fn "_law_due" = some sp__law_due ∧
      ft.fn "_law_alike" = some (sp__law_alike 8) ∧ ft.fn "_law_same_state" = some sp__law_same_state ∧ sp_law.F [.list (s.map .int)] = endD ⟨1, [], ⟨false, false⟩, fun _ => none⟩ (evSl ft b_law [.sh false (.list (s.map .int)), .no, .no, .no, .no, .no, .no, .no, .no, .no]) := ⟨_, rfl, rfl, rfl, rfl, rfl, rfl, rfl, rfl, un_law _⟩
  obtain ⟨ft, f1, f2, f3, f4, f5, f6, f7, f8, hk⟩ := hk
  rw [hk]
  apply Ends.eq
  unfold b_law
  obtain ⟨_, ⟨bs, P, rfl⟩, e1⟩ := program_ok s w4 (by omega) (by decide) (by decide) w4_shaped
  have e1' : sp__law_program.F [.list (s.map .int), .list ([.str "box", .str "open", .str "fill"] ++ [.str "drop"])] = some (.ok (.list (bs.map .list), [])) := e1
  obtain ⟨_, ⟨ns, fs, es, hn0, rfl, hne, hfl, hfr, T, hd, hel⟩, e2⟩ := state_ok s w4 bs (by omega) P
  obtain ⟨fs0, b, pl, own, st, body, row, bs', q1, q2, q3, q4, q5, Tp, e3⟩ := topped_ok s ns w3 w4 bs fs es (by omega) P hne hfl hfr (by decide) (by decide) w3_shaped
  have e3' : sp__law_topped.F [.list (s.map .int), .list (bs.map .list), .tuple [.none, .list fs, .dict es], .list [.str "box", .str "open", .str "fill"]] = _ := e3
  obtain ⟨ks, k1, k2, k3⟩ := keys_ints T
  obtain ⟨w, hw, rfl⟩ := row_w3 Tp.ins
  have Dm : Dom ns ks bs'.length es := ⟨by rw [q3]; exact T, fun n hn => by
    have := hd n hn
    rw [k1] at this
    obtain ⟨m, hm, h⟩ := List.mem_map.mp this
    injection h with h
    rw [← h]; exact hm, k1⟩
  have A : At bs' ns ks fs0 es b pl own st body w := ⟨Tp.hb, Tp.hp, Dm, fun f hf => (hfr f (q1 f hf)).w, by omega, Tp.vo, Tp.vs, hel, fun k hk => hn0 k (k3 k hk)⟩
  obtain ⟨e', fs', es', O, r1, r2⟩ := A.core hw
  have s1 := same_state_ok .none (fs0 ++ [frm b pl own st]) es es alk_none (ans_of (e := .none) alk_none A.all A.lall T).af T.w.same
  have s2 := same_state_ok e' fs' es' es' O.ae O.af O.as
  (rw [evSl_cons]; simp!)
  (rw [evSl_cons]; simp!)
  (rw [evSl_cons]; simp! [f1, e1'])
  have q : evE ft (.call "_law_state" (.cons (.v 0) (.cons (.v 2) .nil))) [.sh false (.list (s.map .int)), .sh true (.list [.str "box", .str "open", .str "fill"]), .ow true false (.list (bs.map .list)), .no, .no, .no, .no, .no, .no, .no] = some (.ok (⟨false, true⟩, .tuple [.none, .list fs, .dict es])) := by
    simp! [f2, e2]
  have ha : ∀ X, evE ft (.call "_law_state" (.cons (.v 0) (.cons (.v 2) .nil))) [.sh false (.list (s.map .int)), .sh true (.list [.str "box", .str "open", .str "fill"]), .ow true false (.list (bs.map .list)), .no, .no, .no, .no, .no, .no, .no] = X →
      evMA ft sp__law_topped.mu 0 (.cons (.v 0) (.cons (.v 2) (.cons (.call "_law_state" (.cons (.v 0) (.cons (.v 2) .nil))) (.cons (.v 1) .nil)))) [.sh false (.list (s.map .int)), .sh true (.list [.str "box", .str "open", .str "fill"]), .ow true false (.list (bs.map .list)), .no, .no, .no, .no, .no, .no, .no] =
      bnd (bnd (bnd X fun r => ok [r.2, .list [.str "box", .str "open", .str "fill"]]) fun q => ok (.list (bs.map .list) :: q)) fun q => ok (.list (s.map .int) :: q) := by
    rintro _ rfl
    rfl
  have ha2 := ha _ q
  rw [evSl_cons, mc_set (js := [2]) f3 ha2 rfl ⟨rfl, by decide, rfl⟩ e3' rfl rfl rfl]
  simp!
  (rw [evSl_cons]; simp! [f4, copy_ok])
  have hsh : shapedB (.list (bs'.map .list)) = true := by
    refine Alk.shaped (n := 6) ⟨by rw [List.length_map, q3]; have := P.len; omega, fun x hx => ?_⟩ (by decide)
    obtain ⟨r, hr, rfl⟩ := List.mem_map.mp hx
    rcases q4 r hr with h | h
    · rw [h]
      refine ⟨by have := q5.1; omega, fun d hd => ?_⟩
      rcases q5.2 d hd with h | ⟨r, h1, h2⟩
      · rw [h]; exact Tp.ins.alk w3_shaped
      · exact ((P.row r h1).2 d h2).alk w4_shaped
    · exact ⟨by have := (P.row r h).1; omega, fun d hd => ((P.row r h).2 d hd).alk w4_shaped⟩
  obtain ⟨b5, h5⟩ := lc_filter (ft := ft) (i := 9) (src := .l (.v 2)) (c := .no) (e := .bf "list" (.cons (.v 9) .nil)) (env := [.sh false (.list (s.map .int)), .sh true (.list [.str "box", .str "open", .str "fill"]), .ow true (noMutA (bs'.map .list)) (.list (bs'.map .list)), .sh false (stD fs0 es b pl own st), .sh false (stD fs0 es b pl own st), .no, .no, .no, .no, .no]) (f := noMutA (bs'.map .list)) (ds := bs'.map .list) (fun _ => true)
    (by simp!) (by simp) (lenOk_of (by rw [List.length_map, q3]; have := P.len; omega)) (fun d hd => by
      obtain ⟨r, hr, rfl⟩ := List.mem_map.mp hd
      refine ⟨rfl, ?_⟩
      simp!
      exact ⟨_, rfl⟩)
  rw [List.filter_eq_self.mpr (fun _ _ => rfl)] at h5
  (rw [evSl_cons]; simp! [h5])
  (rw [evSl_cons]; simp!)
  have hx : L2.atI (bs'.map PyData.list) (b : Int) = some (.list body) := L2.atI_nat (by rw [List.getElem?_map, A.hb]; rfl)
  have hy : L2.atI body (pl : Int) = some (.tuple [.str w]) := L2.atI_nat A.hp
  have a1 : ∀ x y z : R.D, L2.atI [x, y, z] 1 = some y := fun _ _ _ => rfl
  have b0 : ∀ x y z w : R.D, L2.atI [x, y, z, w] 0 = some x := fun _ _ _ _ => rfl
  have b1 : ∀ x y z w : R.D, L2.atI [x, y, z, w] 1 = some y := fun _ _ _ _ => rfl
  have d0 : ∀ x y : R.D, L2.atI [x, y] 0 = some x := fun _ _ => rfl
  have d1 : ∀ x y : R.D, L2.atI [x, y] 1 = some y := fun _ _ => rfl
  have al := alike_ok 8 .none alk_none
  have hw : wrkD true (ansD e' fs' es') = true := by
    show (lenOk fs'.length && lenOk es'.length) = true
    rw [O.lf, O.le]; rfl
  (rw [evSl_cons]; simp! [f5, f6, f7, f8, r1, r2, s1, s2, al, cmp_ne_self hsh, hx, hy, a1, b0, b1, d0, d1, evE_neg, at_last, hw, noMut_st])
  exact Ends.mk rfl
end K03RWA
set_option maxHeartbeats 0
namespace K03RWA
open PySem PySem.Spec PyProof.Rows L2 R
theorem biN {x : Str} {q : Str → Prop} (h : x ∈ biNames) (q0 : q "len") (q1 : q "abs") (q2 : q "max") (q3 : q "min") (q4 : q "int") (q5 : q "str") (q6 : q "list") (q7 : q "tuple") (q8 : q "dict") (q9 : q "all") (q10 : q "any") (q11 : q "sorted") (q12 : q "isinstance") (q13 : q "range") (q14 : q "bool") (q15 : q "sum") (q16 : q "zip") (q17 : q "enumerate") (q18 : q "reversed") (q19 : q "set") : q x := by
  have hx := h
  simp only [biNames, List.mem_cons, List.mem_nil_iff, or_false] at hx
  rcases hx with rfl | rfl | rfl | rfl | rfl | rfl | rfl | rfl | rfl | rfl | rfl | rfl | rfl | rfl | rfl | rfl | rfl | rfl | rfl | rfl
  · exact q0
  · exact q1
  · exact q2
  · exact q3
  · exact q4
  · exact q5
  · exact q6
  · exact q7
  · exact q8
  · exact q9
  · exact q10
  · exact q11
  · exact q12
  · exact q13
  · exact q14
  · exact q15
  · exact q16
  · exact q17
  · exact q18
  · exact q19
theorem gl_of {K : PySem.W.Frag} {mg : Str → Option Value} {base : Heap} (ci : (∃ t, mg "MOST_FRAMES" = some (.int 60 t)) ∧ (∃ t, mg "MOST_VALUES" = some (.int 60 t)) ∧ (∃ t, mg "MOST_NUMBER" = some (.int 1000000000000000000000000000000 t)) ∧ True) : ∀ n d, ft_0.gl n = some d → ∃ v u, mg n = some u ∧ RelV v u ∧ ∀ H O, R.Rp K H O v d := by
  intro n d e
  have e2 : gl0 n = some d := e
  unfold gl0 at e2
  split at e2
  · rename_i h
    cases e2
    obtain ⟨t, ht⟩ := ci.1
    exact ⟨.int 60, .int 60 t, by rw [h]; exact ht, ⟨t, rfl⟩, fun _ _ => .int _⟩
  split at e2
  · rename_i h
    cases e2
    obtain ⟨t, ht⟩ := ci.2.1
    exact ⟨.int 60, .int 60 t, by rw [h]; exact ht, ⟨t, rfl⟩, fun _ _ => .int _⟩
  split at e2
  · rename_i h
    cases e2
    obtain ⟨t, ht⟩ := ci.2.2.1
    exact ⟨.int 1000000000000000000000000000000, .int 1000000000000000000000000000000 t, by rw [h]; exact ht, ⟨t, rfl⟩, fun _ _ => .int _⟩
  cases e2
section
variable {P : Program} {w : World} {K : PySem.W.Frag} {mg : Str → Option Value} {base : Heap} {tabs : List Addr}
theorem chain (bi : ∀ x, x ∈ biNames → mg x = none) (ci : (∃ t, mg "MOST_FRAMES" = some (.int 60 t)) ∧ (∃ t, mg "MOST_VALUES" = some (.int 60 t)) ∧ (∃ t, mg "MOST_NUMBER" = some (.int 1000000000000000000000000000000 t)) ∧ True)
    {a_0 : Addr} {fd_0 : FuncData} (F_0 : Fun K "is_number" "is_number" (topS 7) a_0 fd_0) (b_0 : Binds K fd_0 ["value"] []) (g_0 : mg "is_number" = some (.ref a_0))
    {a_1 : Addr} {fd_1 : FuncData} (F_1 : Fun K "thing_of" "thing_of" (topS 8) a_1 fd_1) (b_1 : Binds K fd_1 ["value", "things"] []) (g_1 : mg "thing_of" = some (.ref a_1))
    {a_2 : Addr} {fd_2 : FuncData} (F_2 : Fun K "is_box" "is_box" (topS 9) a_2 fd_2) (b_2 : Binds K fd_2 ["value", "things"] []) (g_2 : mg "is_box" = some (.ref a_2))
    {a_3 : Addr} {fd_3 : FuncData} (F_3 : Fun K "is_function" "is_function" (topS 10) a_3 fd_3) (b_3 : Binds K fd_3 ["value", "things"] []) (g_3 : mg "is_function" = some (.ref a_3))
    {a_4 : Addr} {fd_4 : FuncData} (F_4 : Fun K "new_number" "new_number" (topS 11) a_4 fd_4) (b_4 : Binds K fd_4 ["things"] []) (g_4 : mg "new_number" = some (.ref a_4))
    {a_5 : Addr} {fd_5 : FuncData} (F_5 : Fun K "spoken" "spoken" (topS 12) a_5 fd_5) (b_5 : Binds K fd_5 ["value", "things"] []) (g_5 : mg "spoken" = some (.ref a_5))
    {a_6 : Addr} {fd_6 : FuncData} (F_6 : Fun K "popped_by" "popped_by" (topS 15) a_6 fd_6) (b_6 : Binds K fd_6 ["word"] []) (g_6 : mg "popped_by" = some (.ref a_6))
    {p_POPPED : Addr} (q_POPPED : mg "POPPED" = some (.ref p_POPPED)) (k_POPPED : KDi K w p_POPPED kv_POPPED)
    {a_7 : Addr} {fd_7 : FuncData} (F_7 : Fun K "reckoned" "reckoned" (topS 16) a_7 fd_7) (b_7 : Binds K fd_7 ["word", "popped"] []) (g_7 : mg "reckoned" = some (.ref a_7))
    {a_8 : Addr} {fd_8 : FuncData} (F_8 : Fun K "lacks_own" "lacks_own" (topS 18) a_8 fd_8) (b_8 : Binds K fd_8 ["instruction", "own"] []) (g_8 : mg "lacks_own" = some (.ref a_8))
    (t_lacks_own : ∃ c T, fd_8.code = .ref c ∧ GxR.TabB base mg c T ∧ T ∈ tabs)
    {a_9 : Addr} {fd_9 : FuncData} (F_9 : Fun K "is_wrong_kind" "is_wrong_kind" (topS 19) a_9 fd_9) (b_9 : Binds K fd_9 ["word", "popped", "things"] []) (g_9 : mg "is_wrong_kind" = some (.ref a_9))
    (t_is_wrong_kind : ∃ c T, fd_9.code = .ref c ∧ GxR.TabB base mg c T ∧ T ∈ tabs)
    {a_10 : Addr} {fd_10 : FuncData} (F_10 : Fun K "is_too_great" "is_too_great" (topS 20) a_10 fd_10) (b_10 : Binds K fd_10 ["word", "popped"] []) (g_10 : mg "is_too_great" = some (.ref a_10))
    {a_11 : Addr} {fd_11 : FuncData} (F_11 : Fun K "is_full" "is_full" (topS 21) a_11 fd_11) (b_11 : Binds K fd_11 ["word", "frames"] []) (g_11 : mg "is_full" = some (.ref a_11))
    {a_12 : Addr} {fd_12 : FuncData} (F_12 : Fun K "stuck_word" "stuck_word" (topS 17) a_12 fd_12) (b_12 : Binds K fd_12 ["program", "frames", "things"] []) (g_12 : mg "stuck_word" = some (.ref a_12))
    {a_13 : Addr} {fd_13 : FuncData} (F_13 : Fun K "push" "push" (topS 25) a_13 fd_13) (b_13 : Binds K fd_13 ["frames", "value"] []) (g_13 : mg "push" = some (.ref a_13))
    {a_14 : Addr} {fd_14 : FuncData} (F_14 : Fun K "keep" "keep" (topS 27) a_14 fd_14) (b_14 : Binds K fd_14 ["frames", "value"] []) (g_14 : mg "keep" = some (.ref a_14))
    {a_15 : Addr} {fd_15 : FuncData} (F_15 : Fun K "push_new" "push_new" (topS 26) a_15 fd_15) (b_15 : Binds K fd_15 ["frames", "things", "thing"] []) (g_15 : mg "push_new" = some (.ref a_15))
    {a_16 : Addr} {fd_16 : FuncData} (F_16 : Fun K "go" "go" (topS 28) a_16 fd_16) (b_16 : Binds K fd_16 ["frames", "place"] []) (g_16 : mg "go" = some (.ref a_16))
    {a_17 : Addr} {fd_17 : FuncData} (F_17 : Fun K "own_values" "own_values" (topS 29) a_17 fd_17) (b_17 : Binds K fd_17 ["frames", "numbers"] []) (g_17 : mg "own_values" = some (.ref a_17))
    {a_18 : Addr} {fd_18 : FuncData} (F_18 : Fun K "do_instruction" "do_instruction" (topS 24) a_18 fd_18) (b_18 : Binds K fd_18 ["instruction", "popped", "frames", "things"] []) (g_18 : mg "do_instruction" = some (.ref a_18))
    {a_19 : Addr} {fd_19 : FuncData} (F_19 : Fun K "stepped" "stepped" (topS 23) a_19 fd_19) (b_19 : Binds K fd_19 ["program", "state"] []) (g_19 : mg "stepped" = some (.ref a_19))
    {a_20 : Addr} {fd_20 : FuncData} (F_20 : Fun K "_law_cell" "_law_cell" (topS 31) a_20 fd_20) (b_20 : Binds K fd_20 ["_law_script", "_law_k"] []) (g_20 : mg "_law_cell" = some (.ref a_20))
    {a_21 : Addr} {fd_21 : FuncData} (F_21 : Fun K "_law_raw" "_law_raw" (topS 32) a_21 fd_21) (b_21 : Binds K fd_21 ["_law_script", "_law_k"] []) (g_21 : mg "_law_raw" = some (.ref a_21))
    {a_22 : Addr} {fd_22 : FuncData} (F_22 : Fun K "_law_whole" "_law_whole" (topS 33) a_22 fd_22) (b_22 : Binds K fd_22 ["_law_found"] []) (g_22 : mg "_law_whole" = some (.ref a_22))
    {a_23 : Addr} {fd_23 : FuncData} (F_23 : Fun K "_law_number" "_law_number" (topS 34) a_23 fd_23) (b_23 : Binds K fd_23 ["_law_script", "_law_k"] []) (g_23 : mg "_law_number" = some (.ref a_23))
    {a_24 : Addr} {fd_24 : FuncData} (F_24 : Fun K "_law_value" "_law_value" (topS 35) a_24 fd_24) (b_24 : Binds K fd_24 ["_law_script", "_law_k", "_law_names_here"] []) (g_24 : mg "_law_value" = some (.ref a_24))
    {a_25 : Addr} {fd_25 : FuncData} (F_25 : Fun K "_law_values" "_law_values" (topS 36) a_25 fd_25) (b_25 : Binds K fd_25 ["_law_script", "_law_k", "_law_many", "_law_names_here"] []) (g_25 : mg "_law_values" = some (.ref a_25))
    {a_26 : Addr} {fd_26 : FuncData} (F_26 : Fun K "_law_names" "_law_names" (topS 37) a_26 fd_26) (b_26 : Binds K fd_26 ["_law_script"] []) (g_26 : mg "_law_names" = some (.ref a_26))
    {a_27 : Addr} {fd_27 : FuncData} (F_27 : Fun K "_law_things" "_law_things" (topS 38) a_27 fd_27) (b_27 : Binds K fd_27 ["_law_script", "_law_names_here", "_law_bodies"] []) (g_27 : mg "_law_things" = some (.ref a_27))
    {a_28 : Addr} {fd_28 : FuncData} (F_28 : Fun K "_law_frame" "_law_frame" (topS 39) a_28 fd_28) (b_28 : Binds K fd_28 ["_law_script", "_law_k", "_law_program_here", "_law_names_here"] []) (g_28 : mg "_law_frame" = some (.ref a_28))
    {a_29 : Addr} {fd_29 : FuncData} (F_29 : Fun K "_law_frames" "_law_frames" (topS 40) a_29 fd_29) (b_29 : Binds K fd_29 ["_law_script", "_law_program_here", "_law_names_here"] []) (g_29 : mg "_law_frames" = some (.ref a_29))
    {a_30 : Addr} {fd_30 : FuncData} (F_30 : Fun K "_law_row" "_law_row" (topS 41) a_30 fd_30) (b_30 : Binds K fd_30 ["_law_script", "_law_k", "_law_words", "_law_bodies", "_law_size"] []) (g_30 : mg "_law_row" = some (.ref a_30))
    {a_31 : Addr} {fd_31 : FuncData} (F_31 : Fun K "_law_program" "_law_program" (topS 42) a_31 fd_31) (b_31 : Binds K fd_31 ["_law_script", "_law_words"] []) (g_31 : mg "_law_program" = some (.ref a_31))
    {a_32 : Addr} {fd_32 : FuncData} (F_32 : Fun K "_law_state" "_law_state" (topS 43) a_32 fd_32) (b_32 : Binds K fd_32 ["_law_script", "_law_program_here"] []) (g_32 : mg "_law_state" = some (.ref a_32))
    {a_33 : Addr} {fd_33 : FuncData} (F_33 : Fun K "_law_topped" "_law_topped" (topS 44) a_33 fd_33) (b_33 : Binds K fd_33 ["_law_script", "_law_program_here", "_law_state_here", "_law_words"] []) (g_33 : mg "_law_topped" = some (.ref a_33))
    {a_34 : Addr} {fd_34 : FuncData} (F_34 : Fun K "_law_alike" "_law_alike" (topS 45) a_34 fd_34) (b_34 : Binds K fd_34 ["_law_found", "_law_due_here"] []) (g_34 : mg "_law_alike" = some (.ref a_34))
    {a_35 : Addr} {fd_35 : FuncData} (F_35 : Fun K "_law_same_things" "_law_same_things" (topS 46) a_35 fd_35) (b_35 : Binds K fd_35 ["_law_found", "_law_due_here"] []) (g_35 : mg "_law_same_things" = some (.ref a_35))
    {a_36 : Addr} {fd_36 : FuncData} (F_36 : Fun K "_law_same_state" "_law_same_state" (topS 47) a_36 fd_36) (b_36 : Binds K fd_36 ["_law_found", "_law_due_here"] []) (g_36 : mg "_law_same_state" = some (.ref a_36))
    {a_37 : Addr} {fd_37 : FuncData} (F_37 : Fun K "_law_copy" "_law_copy" (topS 48) a_37 fd_37) (b_37 : Binds K fd_37 ["_law_state_here"] []) (g_37 : mg "_law_copy" = some (.ref a_37))
    {a_38 : Addr} {fd_38 : FuncData} (F_38 : Fun K "_law_is_box" "_law_is_box" (topS 49) a_38 fd_38) (b_38 : Binds K fd_38 ["_law_value_here", "_law_things_here"] []) (g_38 : mg "_law_is_box" = some (.ref a_38))
    {a_39 : Addr} {fd_39 : FuncData} (F_39 : Fun K "_law_due" "_law_due" (topS 50) a_39 fd_39) (b_39 : Binds K fd_39 ["_law_row_here", "_law_state_here", "_law_frame_here"] []) (g_39 : mg "_law_due" = some (.ref a_39))
    {a_40 : Addr} {fd_40 : FuncData} (F_40 : Fun K "law" "law" (topS 51) a_40 fd_40) (b_40 : Binds K fd_40 ["_law_script"] []) (g_40 : mg "law" = some (.ref a_40)) :
    FnOk P w K mg base (CX P w) 51 a_40 fd_40 ["_law_script"] (spD K mg tabs sp_law) := by
  have L_0 : LE ft_0 0 P w K mg base tabs := ⟨bi, fun f s e => (by cases e), gl_of (base := base) ci⟩
  have h_0 := def_step L_0 F_0 s_is_number b_is_number m_is_number sp_is_number rfl (fun ds r _ e => e)
  have L_1 : LE ft_1 1 P w K mg base tabs := LE.add (L_0.mono (show 0 ≤ 1 by decide)) g_0 F_0.kp b_0 rfl h_0
  have h_1 := def_step L_1 F_1 s_thing_of b_thing_of m_thing_of sp_thing_of rfl (fun ds r _ e => e)
  have L_2 : LE ft_2 2 P w K mg base tabs := LE.add (L_1.mono (show 1 ≤ 2 by decide)) g_1 F_1.kp b_1 rfl h_1
  have h_2 := def_step L_2 F_2 s_is_box b_is_box m_is_box sp_is_box rfl (fun ds r _ e => e)
  have L_3 : LE ft_3 3 P w K mg base tabs := LE.add (L_2.mono (show 2 ≤ 3 by decide)) g_2 F_2.kp b_2 rfl h_2
  have h_3 := def_step L_3 F_3 s_is_function b_is_function m_is_function sp_is_function rfl (fun ds r _ e => e)
  have L_4 : LE ft_4 4 P w K mg base tabs := LE.add (L_3.mono (show 3 ≤ 4 by decide)) g_3 F_3.kp b_3 rfl h_3
  have h_4 := def_step L_4 F_4 s_new_number b_new_number m_new_number sp_new_number rfl (fun ds r _ e => e)
  have L_5 : LE ft_5 5 P w K mg base tabs := LE.add (L_4.mono (show 4 ≤ 5 by decide)) g_4 F_4.kp b_4 rfl h_4
  have h_5 := def_step L_5 F_5 s_spoken b_spoken m_spoken sp_spoken rfl (fun ds r _ e => e)
  have L_6 : LE ft_6 6 P w K mg base tabs := LE.add (L_5.mono (show 5 ≤ 6 by decide)) g_5 F_5.kp b_5 rfl h_5
  have h_6 := pop_step (ft := ft_0) (k := 6) (tabs := tabs) (base := base) (P := P) (x := "POPPED") (kvs := kv_POPPED) (c := 0) F_6 s_popped_by rfl (by decide +kernel) q_POPPED k_POPPED
  have L_7 : LE ft_7 7 P w K mg base tabs := LE.add (L_6.mono (show 6 ≤ 7 by decide)) g_6 F_6.kp b_6 rfl h_6
  have h_7 := def_step L_7 F_7 s_reckoned b_reckoned m_reckoned sp_reckoned rfl (fun ds r _ e => e)
  have L_8 : LE ft_8 8 P w K mg base tabs := LE.add (L_7.mono (show 7 ≤ 8 by decide)) g_7 F_7.kp b_7 rfl h_7
  have h_8 := def_stepG L_8 F_8 s_lacks_own b_lacks_own m_lacks_own sp_lacks_own rfl (fun ds r _ e => e) t_lacks_own
  have L_9 : LE ft_9 10 P w K mg base tabs := LE.add (L_8.mono (show 8 ≤ 10 by decide)) g_8 F_8.kp b_8 rfl h_8
  have h_9 := def_stepG L_9 F_9 s_is_wrong_kind b_is_wrong_kind m_is_wrong_kind sp_is_wrong_kind rfl (fun ds r _ e => e) t_is_wrong_kind
  have L_10 : LE ft_10 12 P w K mg base tabs := LE.add (L_9.mono (show 10 ≤ 12 by decide)) g_9 F_9.kp b_9 rfl h_9
  have h_10 := def_step L_10 F_10 s_is_too_great b_is_too_great m_is_too_great sp_is_too_great rfl (fun ds r _ e => e)
  have L_11 : LE ft_11 13 P w K mg base tabs := LE.add (L_10.mono (show 12 ≤ 13 by decide)) g_10 F_10.kp b_10 rfl h_10
  have h_11 := def_step L_11 F_11 s_is_full b_is_full m_is_full sp_is_full rfl (fun ds r _ e => e)
  have L_12 : LE ft_12 14 P w K mg base tabs := LE.add (L_11.mono (show 13 ≤ 14 by decide)) g_11 F_11.kp b_11 rfl h_11
  have h_12 := def_step L_12 F_12 s_stuck_word b_stuck_word m_stuck_word sp_stuck_word rfl (fun ds r _ e => e)
  have L_13 : LE ft_13 15 P w K mg base tabs := LE.add (L_12.mono (show 14 ≤ 15 by decide)) g_12 F_12.kp b_12 rfl h_12
  have h_13 := def_step L_13 F_13 s_push b_push m_push sp_push rfl (fun ds r _ e => e)
  have L_14 : LE ft_14 16 P w K mg base tabs := LE.add (L_13.mono (show 15 ≤ 16 by decide)) g_13 F_13.kp b_13 rfl h_13
  have h_14 := def_step L_14 F_14 s_keep b_keep m_keep sp_keep rfl (fun ds r _ e => e)
  have L_15 : LE ft_15 17 P w K mg base tabs := LE.add (L_14.mono (show 16 ≤ 17 by decide)) g_14 F_14.kp b_14 rfl h_14
  have h_15 := def_step L_15 F_15 s_push_new b_push_new m_push_new sp_push_new rfl (fun ds r _ e => e)
  have L_16 : LE ft_16 18 P w K mg base tabs := LE.add (L_15.mono (show 17 ≤ 18 by decide)) g_15 F_15.kp b_15 rfl h_15
  have h_16 := def_step L_16 F_16 s_go b_go m_go sp_go rfl (fun ds r _ e => e)
  have L_17 : LE ft_17 19 P w K mg base tabs := LE.add (L_16.mono (show 18 ≤ 19 by decide)) g_16 F_16.kp b_16 rfl h_16
  have h_17 := def_step L_17 F_17 s_own_values b_own_values m_own_values sp_own_values rfl (fun ds r _ e => e)
  have L_18 : LE ft_18 20 P w K mg base tabs := LE.add (L_17.mono (show 19 ≤ 20 by decide)) g_17 F_17.kp b_17 rfl h_17
  have h_18 := def_step L_18 F_18 s_do_instruction b_do_instruction m_do_instruction sp_do_instruction rfl (fun ds r _ e => e)
  have L_19 : LE ft_19 21 P w K mg base tabs := LE.add (L_18.mono (show 20 ≤ 21 by decide)) g_18 F_18.kp b_18 rfl h_18
  have h_19 := def_step L_19 F_19 s_stepped b_stepped m_stepped sp_stepped rfl (fun ds r _ e => e)
  have L_20 : LE ft_20 22 P w K mg base tabs := LE.add (L_19.mono (show 21 ≤ 22 by decide)) g_19 F_19.kp b_19 rfl h_19
  have h_20 := def_step L_20 F_20 s__law_cell b__law_cell m__law_cell sp__law_cell rfl (fun ds r _ e => e)
  have L_21 : LE ft_21 23 P w K mg base tabs := LE.add (L_20.mono (show 22 ≤ 23 by decide)) g_20 F_20.kp b_20 rfl h_20
  have h_21 := def_step L_21 F_21 s__law_raw b__law_raw m__law_raw sp__law_raw rfl (fun ds r _ e => e)
  have L_22 : LE ft_22 24 P w K mg base tabs := LE.add (L_21.mono (show 23 ≤ 24 by decide)) g_21 F_21.kp b_21 rfl h_21
  have h_22 := def_step L_22 F_22 s__law_whole b__law_whole m__law_whole sp__law_whole rfl (fun ds r _ e => e)
  have L_23 : LE ft_23 25 P w K mg base tabs := LE.add (L_22.mono (show 24 ≤ 25 by decide)) g_22 F_22.kp b_22 rfl h_22
  have h_23 := def_step L_23 F_23 s__law_number b__law_number m__law_number sp__law_number rfl (fun ds r _ e => e)
  have L_24 : LE ft_24 26 P w K mg base tabs := LE.add (L_23.mono (show 25 ≤ 26 by decide)) g_23 F_23.kp b_23 rfl h_23
  have h_24 := def_step L_24 F_24 s__law_value b__law_value m__law_value sp__law_value rfl (fun ds r _ e => e)
  have L_25 : LE ft_25 27 P w K mg base tabs := LE.add (L_24.mono (show 26 ≤ 27 by decide)) g_24 F_24.kp b_24 rfl h_24
  have h_25 := def_step L_25 F_25 s__law_values b__law_values m__law_values sp__law_values rfl (fun ds r _ e => e)
  have L_26 : LE ft_26 28 P w K mg base tabs := LE.add (L_25.mono (show 27 ≤ 28 by decide)) g_25 F_25.kp b_25 rfl h_25
  have h_26 := def_step L_26 F_26 s__law_names b__law_names m__law_names sp__law_names rfl (fun ds r _ e => e)
  have L_27 : LE ft_27 29 P w K mg base tabs := LE.add (L_26.mono (show 28 ≤ 29 by decide)) g_26 F_26.kp b_26 rfl h_26
  have h_27 := def_step L_27 F_27 s__law_things b__law_things m__law_things sp__law_things rfl (fun ds r _ e => e)
  have L_28 : LE ft_28 30 P w K mg base tabs := LE.add (L_27.mono (show 29 ≤ 30 by decide)) g_27 F_27.kp b_27 rfl h_27
  have h_28 := def_step L_28 F_28 s__law_frame b__law_frame m__law_frame sp__law_frame rfl (fun ds r _ e => e)
  have L_29 : LE ft_29 31 P w K mg base tabs := LE.add (L_28.mono (show 30 ≤ 31 by decide)) g_28 F_28.kp b_28 rfl h_28
  have h_29 := def_step L_29 F_29 s__law_frames b__law_frames m__law_frames sp__law_frames rfl (fun ds r _ e => e)
  have L_30 : LE ft_30 32 P w K mg base tabs := LE.add (L_29.mono (show 31 ≤ 32 by decide)) g_29 F_29.kp b_29 rfl h_29
  have h_30 := def_step L_30 F_30 s__law_row b__law_row m__law_row sp__law_row rfl (fun ds r _ e => e)
  have L_31 : LE ft_31 33 P w K mg base tabs := LE.add (L_30.mono (show 32 ≤ 33 by decide)) g_30 F_30.kp b_30 rfl h_30
  have h_31 := def_step L_31 F_31 s__law_program b__law_program m__law_program sp__law_program rfl (fun ds r _ e => e)
  have L_32 : LE ft_32 34 P w K mg base tabs := LE.add (L_31.mono (show 33 ≤ 34 by decide)) g_31 F_31.kp b_31 rfl h_31
  have h_32 := def_step L_32 F_32 s__law_state b__law_state m__law_state sp__law_state rfl (fun ds r _ e => e)
  have L_33 : LE ft_33 35 P w K mg base tabs := LE.add (L_32.mono (show 34 ≤ 35 by decide)) g_32 F_32.kp b_32 rfl h_32
  have h_33 := def_step L_33 F_33 s__law_topped b__law_topped m__law_topped sp__law_topped rfl (fun ds r _ e => e)
  have L_34 : LE ft_34 36 P w K mg base tabs := LE.add (L_33.mono (show 35 ≤ 36 by decide)) g_33 F_33.kp b_33 rfl h_33
  have A_34 : ∀ m, FnOk P w K mg base (CX P w) (36 + 1 + m) a_34 fd_34 ["_law_found", "_law_due_here"] (spD K mg tabs (sp__law_alike m)) := by
    intro m
    induction m with
    | zero => exact def_step L_34 F_34 s__law_alike b__law_alike m__law_alike (sp__law_alike 0) rfl (fun ds r _ e => (by cases e))
    | succ m ih => exact def_step (LE.add (L_34.mono (show 36 ≤ 36 + 1 + m by omega)) g_34 F_34.kp b_34 (by cases m <;> rfl) ih) F_34 s__law_alike b__law_alike m__law_alike (sp__law_alike (m + 1)) rfl (fun ds r _ e => e)
  have h_34 := A_34 8
  have L_35 : LE ft_35 45 P w K mg base tabs := LE.add (L_34.mono (show 36 ≤ 45 by decide)) g_34 F_34.kp b_34 rfl h_34
  have h_35 := def_step L_35 F_35 s__law_same_things b__law_same_things m__law_same_things sp__law_same_things rfl (fun ds r _ e => e)
  have L_36 : LE ft_36 46 P w K mg base tabs := LE.add (L_35.mono (show 45 ≤ 46 by decide)) g_35 F_35.kp b_35 rfl h_35
  have h_36 := def_step L_36 F_36 s__law_same_state b__law_same_state m__law_same_state sp__law_same_state rfl (fun ds r _ e => e)
  have L_37 : LE ft_37 47 P w K mg base tabs := LE.add (L_36.mono (show 46 ≤ 47 by decide)) g_36 F_36.kp b_36 rfl h_36
  have h_37 := def_step L_37 F_37 s__law_copy b__law_copy m__law_copy sp__law_copy rfl (fun ds r _ e => e)
  have L_38 : LE ft_38 48 P w K mg base tabs := LE.add (L_37.mono (show 47 ≤ 48 by decide)) g_37 F_37.kp b_37 rfl h_37
  have h_38 := def_step L_38 F_38 s__law_is_box b__law_is_box m__law_is_box sp__law_is_box rfl (fun ds r _ e => e)
  have L_39 : LE ft_39 49 P w K mg base tabs := LE.add (L_38.mono (show 48 ≤ 49 by decide)) g_38 F_38.kp b_38 rfl h_38
  have h_39 := def_step L_39 F_39 s__law_due b__law_due m__law_due sp__law_due rfl (fun ds r _ e => e)
  have L_40 : LE ft_40 50 P w K mg base tabs := LE.add (L_39.mono (show 49 ≤ 50 by decide)) g_39 F_39.kp b_39 rfl h_39
  have h_40 := def_step L_40 F_40 s_law b_law m_law sp_law rfl (fun ds r _ e => e)
  exact h_40
end
def d_0 : He.DefD := ⟨("is_number", none), "is_number", "is_number", defArgs (topS 7), defBody (topS 7), defScope (topS 7), [], []⟩
def d_1 : He.DefD := ⟨("thing_of", none), "thing_of", "thing_of", defArgs (topS 8), defBody (topS 8), defScope (topS 8), [], []⟩
def d_2 : He.DefD := ⟨("is_box", none), "is_box", "is_box", defArgs (topS 9), defBody (topS 9), defScope (topS 9), [], []⟩
def d_3 : He.DefD := ⟨("is_function", none), "is_function", "is_function", defArgs (topS 10), defBody (topS 10), defScope (topS 10), [], []⟩
def d_4 : He.DefD := ⟨("new_number", none), "new_number", "new_number", defArgs (topS 11), defBody (topS 11), defScope (topS 11), [], []⟩
def d_5 : He.DefD := ⟨("spoken", none), "spoken", "spoken", defArgs (topS 12), defBody (topS 12), defScope (topS 12), [], []⟩
def d_6 : He.DefD := ⟨("popped_by", none), "popped_by", "popped_by", defArgs (topS 15), defBody (topS 15), defScope (topS 15), [], []⟩
def d_7 : He.DefD := ⟨("reckoned", none), "reckoned", "reckoned", defArgs (topS 16), defBody (topS 16), defScope (topS 16), [], []⟩
def d_8 : He.DefD := ⟨("lacks_own", none), "lacks_own", "lacks_own", defArgs (topS 18), defBody (topS 18), defScope (topS 18), [], []⟩
def d_9 : He.DefD := ⟨("is_wrong_kind", none), "is_wrong_kind", "is_wrong_kind", defArgs (topS 19), defBody (topS 19), defScope (topS 19), [], []⟩
def d_10 : He.DefD := ⟨("is_too_great", none), "is_too_great", "is_too_great", defArgs (topS 20), defBody (topS 20), defScope (topS 20), [], []⟩
def d_11 : He.DefD := ⟨("is_full", none), "is_full", "is_full", defArgs (topS 21), defBody (topS 21), defScope (topS 21), [], []⟩
def d_12 : He.DefD := ⟨("stuck_word", none), "stuck_word", "stuck_word", defArgs (topS 17), defBody (topS 17), defScope (topS 17), [], []⟩
def d_13 : He.DefD := ⟨("push", none), "push", "push", defArgs (topS 25), defBody (topS 25), defScope (topS 25), [], []⟩
def d_14 : He.DefD := ⟨("keep", none), "keep", "keep", defArgs (topS 27), defBody (topS 27), defScope (topS 27), [], []⟩
def d_15 : He.DefD := ⟨("push_new", none), "push_new", "push_new", defArgs (topS 26), defBody (topS 26), defScope (topS 26), [], []⟩
def d_16 : He.DefD := ⟨("go", none), "go", "go", defArgs (topS 28), defBody (topS 28), defScope (topS 28), [], []⟩
def d_17 : He.DefD := ⟨("own_values", none), "own_values", "own_values", defArgs (topS 29), defBody (topS 29), defScope (topS 29), [], []⟩
def d_18 : He.DefD := ⟨("do_instruction", none), "do_instruction", "do_instruction", defArgs (topS 24), defBody (topS 24), defScope (topS 24), [], []⟩
def d_19 : He.DefD := ⟨("stepped", none), "stepped", "stepped", defArgs (topS 23), defBody (topS 23), defScope (topS 23), [], []⟩
def d_20 : He.DefD := ⟨("_law_cell", none), "_law_cell", "_law_cell", defArgs (topS 31), defBody (topS 31), defScope (topS 31), [], []⟩
def d_21 : He.DefD := ⟨("_law_raw", none), "_law_raw", "_law_raw", defArgs (topS 32), defBody (topS 32), defScope (topS 32), [], []⟩
def d_22 : He.DefD := ⟨("_law_whole", none), "_law_whole", "_law_whole", defArgs (topS 33), defBody (topS 33), defScope (topS 33), [], []⟩
def d_23 : He.DefD := ⟨("_law_number", none), "_law_number", "_law_number", defArgs (topS 34), defBody (topS 34), defScope (topS 34), [], []⟩
def d_24 : He.DefD := ⟨("_law_value", none), "_law_value", "_law_value", defArgs (topS 35), defBody (topS 35), defScope (topS 35), [], []⟩
def d_25 : He.DefD := ⟨("_law_values", none), "_law_values", "_law_values", defArgs (topS 36), defBody (topS 36), defScope (topS 36), [], []⟩
def d_26 : He.DefD := ⟨("_law_names", none), "_law_names", "_law_names", defArgs (topS 37), defBody (topS 37), defScope (topS 37), [], []⟩
def d_27 : He.DefD := ⟨("_law_things", none), "_law_things", "_law_things", defArgs (topS 38), defBody (topS 38), defScope (topS 38), [], []⟩
def d_28 : He.DefD := ⟨("_law_frame", none), "_law_frame", "_law_frame", defArgs (topS 39), defBody (topS 39), defScope (topS 39), [], []⟩
def d_29 : He.DefD := ⟨("_law_frames", none), "_law_frames", "_law_frames", defArgs (topS 40), defBody (topS 40), defScope (topS 40), [], []⟩
def d_30 : He.DefD := ⟨("_law_row", none), "_law_row", "_law_row", defArgs (topS 41), defBody (topS 41), defScope (topS 41), [], []⟩
def d_31 : He.DefD := ⟨("_law_program", none), "_law_program", "_law_program", defArgs (topS 42), defBody (topS 42), defScope (topS 42), [], []⟩
def d_32 : He.DefD := ⟨("_law_state", none), "_law_state", "_law_state", defArgs (topS 43), defBody (topS 43), defScope (topS 43), [], []⟩
def d_33 : He.DefD := ⟨("_law_topped", none), "_law_topped", "_law_topped", defArgs (topS 44), defBody (topS 44), defScope (topS 44), [], []⟩
def d_34 : He.DefD := ⟨("_law_alike", none), "_law_alike", "_law_alike", defArgs (topS 45), defBody (topS 45), defScope (topS 45), [], []⟩
def d_35 : He.DefD := ⟨("_law_same_things", none), "_law_same_things", "_law_same_things", defArgs (topS 46), defBody (topS 46), defScope (topS 46), [], []⟩
def d_36 : He.DefD := ⟨("_law_same_state", none), "_law_same_state", "_law_same_state", defArgs (topS 47), defBody (topS 47), defScope (topS 47), [], []⟩
def d_37 : He.DefD := ⟨("_law_copy", none), "_law_copy", "_law_copy", defArgs (topS 48), defBody (topS 48), defScope (topS 48), [], []⟩
def d_38 : He.DefD := ⟨("_law_is_box", none), "_law_is_box", "_law_is_box", defArgs (topS 49), defBody (topS 49), defScope (topS 49), [], []⟩
def d_39 : He.DefD := ⟨("_law_due", none), "_law_due", "_law_due", defArgs (topS 50), defBody (topS 50), defScope (topS 50), [], []⟩
def d_40 : He.DefD := ⟨("law", none), "law", "law", defArgs (topS 51), defBody (topS 51), defScope (topS 51), [], []⟩
def fnL : List He.DefD := [d_0, d_1, d_2, d_3, d_4, d_5, d_6, d_7, d_8, d_9, d_10, d_11, d_12, d_13, d_14, d_15, d_16, d_17, d_18, d_19, d_20, d_21, d_22, d_23, d_24, d_25, d_26, d_27, d_28, d_29, d_30, d_31, d_32, d_33, d_34, d_35, d_36, d_37, d_38, d_39, d_40]
def faL : List He.Fa := [.glo "is_number", .glo "thing_of", .glo "is_box", .glo "is_function", .glo "new_number", .glo "spoken", .glo "popped_by", .glo "reckoned", .glo "lacks_own", .glo "is_wrong_kind", .glo "is_too_great", .glo "is_full", .glo "stuck_word", .glo "push", .glo "keep", .glo "push_new", .glo "go", .glo "own_values", .glo "do_instruction", .glo "stepped", .glo "_law_cell", .glo "_law_raw", .glo "_law_whole", .glo "_law_number", .glo "_law_value", .glo "_law_values", .glo "_law_names", .glo "_law_things", .glo "_law_frame", .glo "_law_frames", .glo "_law_row", .glo "_law_program", .glo "_law_state", .glo "_law_topped", .glo "_law_alike", .glo "_law_same_things", .glo "_law_same_state", .glo "_law_copy", .glo "_law_is_box", .glo "_law_due", .glo "law", .free "len", .free "abs", .free "max", .free "min", .free "int", .free "str", .free "list", .free "tuple", .free "dict", .free "all", .free "any", .free "sorted", .free "isinstance", .free "range", .free "bool", .free "sum", .free "zip", .free "enumerate", .free "reversed", .free "set", .int "MOST_FRAMES" 60, .int "MOST_VALUES" 60, .int "MOST_NUMBER" 1000000000000000000000000000000, .glo "POPPED"]
def gsL : List Str := ["lacks_own", "is_wrong_kind"]
def dsL : List TD := [("POPPED", kv_POPPED)]
abbrev RR : PySem.W.OpenRow := PySem.W.OpenLaw.row PySem.Challenge.rw_sleepwalk_k03_boxes
abbrev hk : PySem.W.Hook := hookT 4 faL fnL gsL dsL
def ob (s : PySem.W.SharedT) : AlT := obsT 4 faL fnL gsL dsL (HandSHeadRun.getT s)
theorem ob_eq (s : PySem.W.SharedT) : ob s = hk.obs s.abs := obsT_eq (HandSHeadRun.getT_eq s)
def loose0 : List Str := ["is_number", "thing_of", "is_box", "is_function", "new_number", "spoken", "popped_by", "reckoned", "lacks_own", "is_wrong_kind", "is_too_great", "is_full", "stuck_word", "push", "keep", "push_new", "go", "own_values", "do_instruction", "stepped", "_law_cell", "_law_raw", "_law_whole", "_law_number"]
def loose1 : List Str := ["_law_value", "_law_values", "_law_names", "_law_things", "_law_frame", "_law_frames", "_law_row", "_law_program", "_law_state", "_law_topped", "_law_alike", "_law_same_things", "_law_same_state", "_law_copy", "_law_is_box", "_law_due"]
def loose2 : List Str := ["MOST_FRAMES", "MOST_VALUES", "MOST_NUMBER", "POPPED", "SleepError", "NoStep"]
def looseL : List Str := loose0 ++ loose1 ++ loose2
theorem runF (w : World) : HandSHeadRun.RunEq RR (PySem.W.view RR.prog [51]) hk ob 3000 looseL (w.withFollow "special-get-raises" false) := by
  intro os
  kernel_rfl
theorem runT (w : World) : HandSHeadRun.RunEq RR (PySem.W.view RR.prog [51]) hk ob 3000 looseL (w.withFollow "special-get-raises" true) := by
  intro os
  kernel_rfl
theorem run (w : World) : HandSHeadRun.RunEq RR (PySem.W.view RR.prog [51]) hk ob 3000 looseL w :=
  PySem.W.byRow2 "special-get-raises" (P := fun w => HandSHeadRun.RunEq RR (PySem.W.view RR.prog [51]) hk ob 3000 looseL w) runF runT w
theorem fun_of {K : PySem.W.Frag} {x : Str} {st : Stmt} {a : Addr} {fd : FuncData} (h : FunD K x x (defArgs st) (defBody st) (defScope st) [] [] a fd) : Fun K x x st a fd := by
  obtain ⟨⟨oc, od, dV, kV, doc, pm, an, cdv, ct, osl, e1, e2, e3, e4, e5⟩, kp⟩ := h
  have : dV = .none := by
    rcases e4 with ⟨z, _⟩ | ⟨z, _⟩
    · first | exact z | assumption
    · exact absurd rfl z
  subst this
  exact ⟨⟨oc, od, kV, doc, pm, an, cdv, ct, osl, e1, e2, e3⟩, kp⟩
theorem facts {w : World} {mg : Str → Option Value} {fa : Addr} {h : Heap} (hw : PySem.Challenge.rw_sleepwalk_k03_boxes.most = some 63) (hlaw : ∀ ns : List Int, ns.length ≤ 63 → (∀ z ∈ ns, Builtin.Int.intBits z ≤ 1048576) → sp_law.F [.list (ns.map .int)] = some (.ok (.bool true, [])))
    (Y : hk.says w h) (G : h.Ns mainGlobals mg) (hmg : mg "law" = some (.ref fa)) : ∃ K, K.In h ∧ LamX.LawAtS PySem.Challenge.rw_sleepwalk_k03_boxes w K (CX PySem.Challenge.rw_sleepwalk_k03_boxes.prog w) 51 63 "_law_script" mg fa h := by
  obtain ⟨K, KX, c⟩ := Y
  obtain ⟨fd_0, D_0⟩ := c.says.def_ 0 (d := d_0) rfl
  have F_0 := fun_of (st := topS 7) D_0
  have b_0 := F_0.binds (ps := ["value"]) fun _ _ _ _ _ _ us hl => match us, hl with | [_], _ => rfl
  have g_0 := He.glo_ok KX G (c.says.fact 0 (f := .glo "is_number") rfl)
  obtain ⟨fd_1, D_1⟩ := c.says.def_ 1 (d := d_1) rfl
  have F_1 := fun_of (st := topS 8) D_1
  have b_1 := F_1.binds (ps := ["value", "things"]) fun _ _ _ _ _ _ us hl => match us, hl with | [_, _], _ => rfl
  have g_1 := He.glo_ok KX G (c.says.fact 1 (f := .glo "thing_of") rfl)
  obtain ⟨fd_2, D_2⟩ := c.says.def_ 2 (d := d_2) rfl
  have F_2 := fun_of (st := topS 9) D_2
  have b_2 := F_2.binds (ps := ["value", "things"]) fun _ _ _ _ _ _ us hl => match us, hl with | [_, _], _ => rfl
  have g_2 := He.glo_ok KX G (c.says.fact 2 (f := .glo "is_box") rfl)
  obtain ⟨fd_3, D_3⟩ := c.says.def_ 3 (d := d_3) rfl
  have F_3 := fun_of (st := topS 10) D_3
  have b_3 := F_3.binds (ps := ["value", "things"]) fun _ _ _ _ _ _ us hl => match us, hl with | [_, _], _ => rfl
  have g_3 := He.glo_ok KX G (c.says.fact 3 (f := .glo "is_function") rfl)
  obtain ⟨fd_4, D_4⟩ := c.says.def_ 4 (d := d_4) rfl
  have F_4 := fun_of (st := topS 11) D_4
  have b_4 := F_4.binds (ps := ["things"]) fun _ _ _ _ _ _ us hl => match us, hl with | [_], _ => rfl
  have g_4 := He.glo_ok KX G (c.says.fact 4 (f := .glo "new_number") rfl)
  obtain ⟨fd_5, D_5⟩ := c.says.def_ 5 (d := d_5) rfl
  have F_5 := fun_of (st := topS 12) D_5
  have b_5 := F_5.binds (ps := ["value", "things"]) fun _ _ _ _ _ _ us hl => match us, hl with | [_, _], _ => rfl
  have g_5 := He.glo_ok KX G (c.says.fact 5 (f := .glo "spoken") rfl)
  obtain ⟨fd_6, D_6⟩ := c.says.def_ 6 (d := d_6) rfl
  have F_6 := fun_of (st := topS 15) D_6
  have b_6 := F_6.binds (ps := ["word"]) fun _ _ _ _ _ _ us hl => match us, hl with | [_], _ => rfl
  have g_6 := He.glo_ok KX G (c.says.fact 6 (f := .glo "popped_by") rfl)
  obtain ⟨fd_7, D_7⟩ := c.says.def_ 7 (d := d_7) rfl
  have F_7 := fun_of (st := topS 16) D_7
  have b_7 := F_7.binds (ps := ["word", "popped"]) fun _ _ _ _ _ _ us hl => match us, hl with | [_, _], _ => rfl
  have g_7 := He.glo_ok KX G (c.says.fact 7 (f := .glo "reckoned") rfl)
  obtain ⟨fd_8, D_8⟩ := c.says.def_ 8 (d := d_8) rfl
  have F_8 := fun_of (st := topS 18) D_8
  have b_8 := F_8.binds (ps := ["instruction", "own"]) fun _ _ _ _ _ _ us hl => match us, hl with | [_, _], _ => rfl
  have g_8 := He.glo_ok KX G (c.says.fact 8 (f := .glo "lacks_own") rfl)
  obtain ⟨fd_9, D_9⟩ := c.says.def_ 9 (d := d_9) rfl
  have F_9 := fun_of (st := topS 19) D_9
  have b_9 := F_9.binds (ps := ["word", "popped", "things"]) fun _ _ _ _ _ _ us hl => match us, hl with | [_, _, _], _ => rfl
  have g_9 := He.glo_ok KX G (c.says.fact 9 (f := .glo "is_wrong_kind") rfl)
  obtain ⟨fd_10, D_10⟩ := c.says.def_ 10 (d := d_10) rfl
  have F_10 := fun_of (st := topS 20) D_10
  have b_10 := F_10.binds (ps := ["word", "popped"]) fun _ _ _ _ _ _ us hl => match us, hl with | [_, _], _ => rfl
  have g_10 := He.glo_ok KX G (c.says.fact 10 (f := .glo "is_too_great") rfl)
  obtain ⟨fd_11, D_11⟩ := c.says.def_ 11 (d := d_11) rfl
  have F_11 := fun_of (st := topS 21) D_11
  have b_11 := F_11.binds (ps := ["word", "frames"]) fun _ _ _ _ _ _ us hl => match us, hl with | [_, _], _ => rfl
  have g_11 := He.glo_ok KX G (c.says.fact 11 (f := .glo "is_full") rfl)
  obtain ⟨fd_12, D_12⟩ := c.says.def_ 12 (d := d_12) rfl
  have F_12 := fun_of (st := topS 17) D_12
  have b_12 := F_12.binds (ps := ["program", "frames", "things"]) fun _ _ _ _ _ _ us hl => match us, hl with | [_, _, _], _ => rfl
  have g_12 := He.glo_ok KX G (c.says.fact 12 (f := .glo "stuck_word") rfl)
  obtain ⟨fd_13, D_13⟩ := c.says.def_ 13 (d := d_13) rfl
  have F_13 := fun_of (st := topS 25) D_13
  have b_13 := F_13.binds (ps := ["frames", "value"]) fun _ _ _ _ _ _ us hl => match us, hl with | [_, _], _ => rfl
  have g_13 := He.glo_ok KX G (c.says.fact 13 (f := .glo "push") rfl)
  obtain ⟨fd_14, D_14⟩ := c.says.def_ 14 (d := d_14) rfl
  have F_14 := fun_of (st := topS 27) D_14
  have b_14 := F_14.binds (ps := ["frames", "value"]) fun _ _ _ _ _ _ us hl => match us, hl with | [_, _], _ => rfl
  have g_14 := He.glo_ok KX G (c.says.fact 14 (f := .glo "keep") rfl)
  obtain ⟨fd_15, D_15⟩ := c.says.def_ 15 (d := d_15) rfl
  have F_15 := fun_of (st := topS 26) D_15
  have b_15 := F_15.binds (ps := ["frames", "things", "thing"]) fun _ _ _ _ _ _ us hl => match us, hl with | [_, _, _], _ => rfl
  have g_15 := He.glo_ok KX G (c.says.fact 15 (f := .glo "push_new") rfl)
  obtain ⟨fd_16, D_16⟩ := c.says.def_ 16 (d := d_16) rfl
  have F_16 := fun_of (st := topS 28) D_16
  have b_16 := F_16.binds (ps := ["frames", "place"]) fun _ _ _ _ _ _ us hl => match us, hl with | [_, _], _ => rfl
  have g_16 := He.glo_ok KX G (c.says.fact 16 (f := .glo "go") rfl)
  obtain ⟨fd_17, D_17⟩ := c.says.def_ 17 (d := d_17) rfl
  have F_17 := fun_of (st := topS 29) D_17
  have b_17 := F_17.binds (ps := ["frames", "numbers"]) fun _ _ _ _ _ _ us hl => match us, hl with | [_, _], _ => rfl
  have g_17 := He.glo_ok KX G (c.says.fact 17 (f := .glo "own_values") rfl)
  obtain ⟨fd_18, D_18⟩ := c.says.def_ 18 (d := d_18) rfl
  have F_18 := fun_of (st := topS 24) D_18
  have b_18 := F_18.binds (ps := ["instruction", "popped", "frames", "things"]) fun _ _ _ _ _ _ us hl => match us, hl with | [_, _, _, _], _ => rfl
  have g_18 := He.glo_ok KX G (c.says.fact 18 (f := .glo "do_instruction") rfl)
  obtain ⟨fd_19, D_19⟩ := c.says.def_ 19 (d := d_19) rfl
  have F_19 := fun_of (st := topS 23) D_19
  have b_19 := F_19.binds (ps := ["program", "state"]) fun _ _ _ _ _ _ us hl => match us, hl with | [_, _], _ => rfl
  have g_19 := He.glo_ok KX G (c.says.fact 19 (f := .glo "stepped") rfl)
  obtain ⟨fd_20, D_20⟩ := c.says.def_ 20 (d := d_20) rfl
  have F_20 := fun_of (st := topS 31) D_20
  have b_20 := F_20.binds (ps := ["_law_script", "_law_k"]) fun _ _ _ _ _ _ us hl => match us, hl with | [_, _], _ => rfl
  have g_20 := He.glo_ok KX G (c.says.fact 20 (f := .glo "_law_cell") rfl)
  obtain ⟨fd_21, D_21⟩ := c.says.def_ 21 (d := d_21) rfl
  have F_21 := fun_of (st := topS 32) D_21
  have b_21 := F_21.binds (ps := ["_law_script", "_law_k"]) fun _ _ _ _ _ _ us hl => match us, hl with | [_, _], _ => rfl
  have g_21 := He.glo_ok KX G (c.says.fact 21 (f := .glo "_law_raw") rfl)
  obtain ⟨fd_22, D_22⟩ := c.says.def_ 22 (d := d_22) rfl
  have F_22 := fun_of (st := topS 33) D_22
  have b_22 := F_22.binds (ps := ["_law_found"]) fun _ _ _ _ _ _ us hl => match us, hl with | [_], _ => rfl
  have g_22 := He.glo_ok KX G (c.says.fact 22 (f := .glo "_law_whole") rfl)
  obtain ⟨fd_23, D_23⟩ := c.says.def_ 23 (d := d_23) rfl
  have F_23 := fun_of (st := topS 34) D_23
  have b_23 := F_23.binds (ps := ["_law_script", "_law_k"]) fun _ _ _ _ _ _ us hl => match us, hl with | [_, _], _ => rfl
  have g_23 := He.glo_ok KX G (c.says.fact 23 (f := .glo "_law_number") rfl)
  obtain ⟨fd_24, D_24⟩ := c.says.def_ 24 (d := d_24) rfl
  have F_24 := fun_of (st := topS 35) D_24
  have b_24 := F_24.binds (ps := ["_law_script", "_law_k", "_law_names_here"]) fun _ _ _ _ _ _ us hl => match us, hl with | [_, _, _], _ => rfl
  have g_24 := He.glo_ok KX G (c.says.fact 24 (f := .glo "_law_value") rfl)
  obtain ⟨fd_25, D_25⟩ := c.says.def_ 25 (d := d_25) rfl
  have F_25 := fun_of (st := topS 36) D_25
  have b_25 := F_25.binds (ps := ["_law_script", "_law_k", "_law_many", "_law_names_here"]) fun _ _ _ _ _ _ us hl => match us, hl with | [_, _, _, _], _ => rfl
  have g_25 := He.glo_ok KX G (c.says.fact 25 (f := .glo "_law_values") rfl)
  obtain ⟨fd_26, D_26⟩ := c.says.def_ 26 (d := d_26) rfl
  have F_26 := fun_of (st := topS 37) D_26
  have b_26 := F_26.binds (ps := ["_law_script"]) fun _ _ _ _ _ _ us hl => match us, hl with | [_], _ => rfl
  have g_26 := He.glo_ok KX G (c.says.fact 26 (f := .glo "_law_names") rfl)
  obtain ⟨fd_27, D_27⟩ := c.says.def_ 27 (d := d_27) rfl
  have F_27 := fun_of (st := topS 38) D_27
  have b_27 := F_27.binds (ps := ["_law_script", "_law_names_here", "_law_bodies"]) fun _ _ _ _ _ _ us hl => match us, hl with | [_, _, _], _ => rfl
  have g_27 := He.glo_ok KX G (c.says.fact 27 (f := .glo "_law_things") rfl)
  obtain ⟨fd_28, D_28⟩ := c.says.def_ 28 (d := d_28) rfl
  have F_28 := fun_of (st := topS 39) D_28
  have b_28 := F_28.binds (ps := ["_law_script", "_law_k", "_law_program_here", "_law_names_here"]) fun _ _ _ _ _ _ us hl => match us, hl with | [_, _, _, _], _ => rfl
  have g_28 := He.glo_ok KX G (c.says.fact 28 (f := .glo "_law_frame") rfl)
  obtain ⟨fd_29, D_29⟩ := c.says.def_ 29 (d := d_29) rfl
  have F_29 := fun_of (st := topS 40) D_29
  have b_29 := F_29.binds (ps := ["_law_script", "_law_program_here", "_law_names_here"]) fun _ _ _ _ _ _ us hl => match us, hl with | [_, _, _], _ => rfl
  have g_29 := He.glo_ok KX G (c.says.fact 29 (f := .glo "_law_frames") rfl)
  obtain ⟨fd_30, D_30⟩ := c.says.def_ 30 (d := d_30) rfl
  have F_30 := fun_of (st := topS 41) D_30
  have b_30 := F_30.binds (ps := ["_law_script", "_law_k", "_law_words", "_law_bodies", "_law_size"]) fun _ _ _ _ _ _ us hl => match us, hl with | [_, _, _, _, _], _ => rfl
  have g_30 := He.glo_ok KX G (c.says.fact 30 (f := .glo "_law_row") rfl)
  obtain ⟨fd_31, D_31⟩ := c.says.def_ 31 (d := d_31) rfl
  have F_31 := fun_of (st := topS 42) D_31
  have b_31 := F_31.binds (ps := ["_law_script", "_law_words"]) fun _ _ _ _ _ _ us hl => match us, hl with | [_, _], _ => rfl
  have g_31 := He.glo_ok KX G (c.says.fact 31 (f := .glo "_law_program") rfl)
  obtain ⟨fd_32, D_32⟩ := c.says.def_ 32 (d := d_32) rfl
  have F_32 := fun_of (st := topS 43) D_32
  have b_32 := F_32.binds (ps := ["_law_script", "_law_program_here"]) fun _ _ _ _ _ _ us hl => match us, hl with | [_, _], _ => rfl
  have g_32 := He.glo_ok KX G (c.says.fact 32 (f := .glo "_law_state") rfl)
  obtain ⟨fd_33, D_33⟩ := c.says.def_ 33 (d := d_33) rfl
  have F_33 := fun_of (st := topS 44) D_33
  have b_33 := F_33.binds (ps := ["_law_script", "_law_program_here", "_law_state_here", "_law_words"]) fun _ _ _ _ _ _ us hl => match us, hl with | [_, _, _, _], _ => rfl
  have g_33 := He.glo_ok KX G (c.says.fact 33 (f := .glo "_law_topped") rfl)
  obtain ⟨fd_34, D_34⟩ := c.says.def_ 34 (d := d_34) rfl
  have F_34 := fun_of (st := topS 45) D_34
  have b_34 := F_34.binds (ps := ["_law_found", "_law_due_here"]) fun _ _ _ _ _ _ us hl => match us, hl with | [_, _], _ => rfl
  have g_34 := He.glo_ok KX G (c.says.fact 34 (f := .glo "_law_alike") rfl)
  obtain ⟨fd_35, D_35⟩ := c.says.def_ 35 (d := d_35) rfl
  have F_35 := fun_of (st := topS 46) D_35
  have b_35 := F_35.binds (ps := ["_law_found", "_law_due_here"]) fun _ _ _ _ _ _ us hl => match us, hl with | [_, _], _ => rfl
  have g_35 := He.glo_ok KX G (c.says.fact 35 (f := .glo "_law_same_things") rfl)
  obtain ⟨fd_36, D_36⟩ := c.says.def_ 36 (d := d_36) rfl
  have F_36 := fun_of (st := topS 47) D_36
  have b_36 := F_36.binds (ps := ["_law_found", "_law_due_here"]) fun _ _ _ _ _ _ us hl => match us, hl with | [_, _], _ => rfl
  have g_36 := He.glo_ok KX G (c.says.fact 36 (f := .glo "_law_same_state") rfl)
  obtain ⟨fd_37, D_37⟩ := c.says.def_ 37 (d := d_37) rfl
  have F_37 := fun_of (st := topS 48) D_37
  have b_37 := F_37.binds (ps := ["_law_state_here"]) fun _ _ _ _ _ _ us hl => match us, hl with | [_], _ => rfl
  have g_37 := He.glo_ok KX G (c.says.fact 37 (f := .glo "_law_copy") rfl)
  obtain ⟨fd_38, D_38⟩ := c.says.def_ 38 (d := d_38) rfl
  have F_38 := fun_of (st := topS 49) D_38
  have b_38 := F_38.binds (ps := ["_law_value_here", "_law_things_here"]) fun _ _ _ _ _ _ us hl => match us, hl with | [_, _], _ => rfl
  have g_38 := He.glo_ok KX G (c.says.fact 38 (f := .glo "_law_is_box") rfl)
  obtain ⟨fd_39, D_39⟩ := c.says.def_ 39 (d := d_39) rfl
  have F_39 := fun_of (st := topS 50) D_39
  have b_39 := F_39.binds (ps := ["_law_row_here", "_law_state_here", "_law_frame_here"]) fun _ _ _ _ _ _ us hl => match us, hl with | [_, _, _], _ => rfl
  have g_39 := He.glo_ok KX G (c.says.fact 39 (f := .glo "_law_due") rfl)
  obtain ⟨fd_40, D_40⟩ := c.says.def_ 40 (d := d_40) rfl
  have F_40 := fun_of (st := topS 51) D_40
  have b_40 := F_40.binds (ps := ["_law_script"]) fun _ _ _ _ _ _ us hl => match us, hl with | [_], _ => rfl
  have g_40 := He.glo_ok KX G (c.says.fact 40 (f := .glo "law") rfl)
  have bA := FunD.bindsA (ps := ["_law_script"]) D_40 fun _ _ _ _ _ _ us hl => match us, hl with | [_], _ => rfl
  have e := hmg.symm.trans g_40
  cases e
  have u_0 := He.free_ok KX G (c.says.fact 41 (f := .free "len") rfl)
  have u_1 := He.free_ok KX G (c.says.fact 42 (f := .free "abs") rfl)
  have u_2 := He.free_ok KX G (c.says.fact 43 (f := .free "max") rfl)
  have u_3 := He.free_ok KX G (c.says.fact 44 (f := .free "min") rfl)
  have u_4 := He.free_ok KX G (c.says.fact 45 (f := .free "int") rfl)
  have u_5 := He.free_ok KX G (c.says.fact 46 (f := .free "str") rfl)
  have u_6 := He.free_ok KX G (c.says.fact 47 (f := .free "list") rfl)
  have u_7 := He.free_ok KX G (c.says.fact 48 (f := .free "tuple") rfl)
  have u_8 := He.free_ok KX G (c.says.fact 49 (f := .free "dict") rfl)
  have u_9 := He.free_ok KX G (c.says.fact 50 (f := .free "all") rfl)
  have u_10 := He.free_ok KX G (c.says.fact 51 (f := .free "any") rfl)
  have u_11 := He.free_ok KX G (c.says.fact 52 (f := .free "sorted") rfl)
  have u_12 := He.free_ok KX G (c.says.fact 53 (f := .free "isinstance") rfl)
  have u_13 := He.free_ok KX G (c.says.fact 54 (f := .free "range") rfl)
  have u_14 := He.free_ok KX G (c.says.fact 55 (f := .free "bool") rfl)
  have u_15 := He.free_ok KX G (c.says.fact 56 (f := .free "sum") rfl)
  have u_16 := He.free_ok KX G (c.says.fact 57 (f := .free "zip") rfl)
  have u_17 := He.free_ok KX G (c.says.fact 58 (f := .free "enumerate") rfl)
  have u_18 := He.free_ok KX G (c.says.fact 59 (f := .free "reversed") rfl)
  have u_19 := He.free_ok KX G (c.says.fact 60 (f := .free "set") rfl)
  have ci_0 := He.int_ok KX G (c.says.fact 61 (f := .int "MOST_FRAMES" 60) rfl)
  have ci_1 := He.int_ok KX G (c.says.fact 62 (f := .int "MOST_VALUES" 60) rfl)
  have ci_2 := He.int_ok KX G (c.says.fact 63 (f := .int "MOST_NUMBER" 1000000000000000000000000000000) rfl)
  have qd_0 := He.glo_ok KX G (c.says.fact 64 (f := .glo "POPPED") rfl)
  have kd_0 := kdi_of (c.dic ("POPPED", kv_POPPED) (by simp [dsL])).1 (c.dic ("POPPED", kv_POPPED) (by simp [dsL])).2
  obtain ⟨oc_lacks_own, od_lacks_own, fx_lacks_own, sl_lacks_own, c_lacks_own, T_lacks_own, q1_lacks_own, q2_lacks_own, q3_lacks_own, q4_lacks_own, q5_lacks_own⟩ := c.tab "lacks_own" (by decide +kernel)
  have z_lacks_own : fx_lacks_own = fd_8 := by
    obtain ⟨⟨oc, od, kV, doc, pm, an, cdv, ct, osl, e1, e2, e3⟩, kp⟩ := F_8
    have := q1_lacks_own.symm.trans e2
    cases this
    rfl
  obtain ⟨oc_is_wrong_kind, od_is_wrong_kind, fx_is_wrong_kind, sl_is_wrong_kind, c_is_wrong_kind, T_is_wrong_kind, q1_is_wrong_kind, q2_is_wrong_kind, q3_is_wrong_kind, q4_is_wrong_kind, q5_is_wrong_kind⟩ := c.tab "is_wrong_kind" (by decide +kernel)
  have z_is_wrong_kind : fx_is_wrong_kind = fd_9 := by
    obtain ⟨⟨oc, od, kV, doc, pm, an, cdv, ct, osl, e1, e2, e3⟩, kp⟩ := F_9
    have := q1_is_wrong_kind.symm.trans e2
    cases this
    rfl
  refine ⟨K, KX, lawAt (sp := sp_law) (cs := [(c_lacks_own, T_lacks_own), (c_is_wrong_kind, T_is_wrong_kind)]) rfl rfl KX c.lst (fun p hp => (by
    simp only [List.mem_cons, List.mem_nil_iff, or_false] at hp
    rcases hp with rfl | rfl
    · exact q4_lacks_own
    · exact q4_is_wrong_kind)) (fun p hp => (by
    simp only [List.mem_cons, List.mem_nil_iff, or_false] at hp
    rcases hp with rfl | rfl
    · exact q5_lacks_own
    · exact q5_is_wrong_kind)) (fun p hp => (by
    simp only [List.mem_cons, List.mem_nil_iff, or_false] at hp
    rcases hp with rfl | rfl
    · exact q3_lacks_own
    · exact q3_is_wrong_kind)) (fun s v => bA s [v] rfl) (fun base hK hN hT => ?_) hlaw⟩
  exact chain (fun x hx => biN (q := fun x => mg x = none) hx u_0 u_1 u_2 u_3 u_4 u_5 u_6 u_7 u_8 u_9 u_10 u_11 u_12 u_13 u_14 u_15 u_16 u_17 u_18 u_19) ⟨ci_0, ci_1, ci_2, trivial⟩
    F_0 b_0 g_0
    F_1 b_1 g_1
    F_2 b_2 g_2
    F_3 b_3 g_3
    F_4 b_4 g_4
    F_5 b_5 g_5
    F_6 b_6 g_6
    qd_0 kd_0
    F_7 b_7 g_7
    F_8 b_8 g_8
    ⟨c_lacks_own, T_lacks_own, (by rw [← z_lacks_own]; exact q2_lacks_own), hT (c_lacks_own, T_lacks_own) (by simp), (by simp)⟩
    F_9 b_9 g_9
    ⟨c_is_wrong_kind, T_is_wrong_kind, (by rw [← z_is_wrong_kind]; exact q2_is_wrong_kind), hT (c_is_wrong_kind, T_is_wrong_kind) (by simp), (by simp)⟩
    F_10 b_10 g_10
    F_11 b_11 g_11
    F_12 b_12 g_12
    F_13 b_13 g_13
    F_14 b_14 g_14
    F_15 b_15 g_15
    F_16 b_16 g_16
    F_17 b_17 g_17
    F_18 b_18 g_18
    F_19 b_19 g_19
    F_20 b_20 g_20
    F_21 b_21 g_21
    F_22 b_22 g_22
    F_23 b_23 g_23
    F_24 b_24 g_24
    F_25 b_25 g_25
    F_26 b_26 g_26
    F_27 b_27 g_27
    F_28 b_28 g_28
    F_29 b_29 g_29
    F_30 b_30 g_30
    F_31 b_31 g_31
    F_32 b_32 g_32
    F_33 b_33 g_33
    F_34 b_34 g_34
    F_35 b_35 g_35
    F_36 b_36 g_36
    F_37 b_37 g_37
    F_38 b_38 g_38
    F_39 b_39 g_39
    F_40 b_40 g_40
end K03RWA
open PySem PySem.W PySem.Calls PyProof.Rows
theorem PySem.Challenge.cw_sleepwalk_k03_boxes_holds : PySem.Challenge.rw_sleepwalk_k03_boxes.Holds := by
  w_on; o_law
  refine HandSHeadRun.head_any (r := OpenLaw.row PySem.Challenge.rw_sleepwalk_k03_boxes) (q := view (OpenLaw.row PySem.Challenge.rw_sleepwalk_k03_boxes).prog [51]) (H := K03RWA.hk) (ob := K03RWA.ob) (M := 3000) (loose := K03RWA.looseL) (d := HandSHeadRun.topDef (OpenLaw.row PySem.Challenge.rw_sleepwalk_k03_boxes).prog 51) (kwd := []) K03RWA.ob_eq
    (by kernel_rfl) (fun s => by kernel_rfl) K03RWA.run (by kernel_rfl) (by kernel_rfl) (by kernel_rfl) (by rfl) (by first | assumption | decide +kernel) (by decide +kernel) ⟨rfl, rfl, rfl, rfl, rfl, by decide +kernel⟩ ?hw ?hc
  case hw => w_witness2
  case hc =>
    refine LamX.walk_ofTsE (l := PySem.Challenge.rw_sleepwalk_k03_boxes) (n := 63) (k := 51) (x := "_law_script") (CX := fun w => L2.CX PySem.Challenge.rw_sleepwalk_k03_boxes.prog w) rfl (by decide) (by kernel_rfl) ⟨rfl, by decide, by decide⟩ ?F (fun _ _ _ _ _ z => ?hcx)
    case hcx =>
      obtain ⟨_, _, _, _, _, _, _, _, _, _, _, _, q⟩ := z
      exact q
    case F =>
      intro w mg fa h Y G hmg0
      have hmg : mg ("law" : PySem.Str) = some (.ref fa) := by
        have e : (HandSHeadRun.topDef (OpenLaw.row PySem.Challenge.rw_sleepwalk_k03_boxes).prog 51).name = ("law" : PySem.Str) := by kernel_rfl
        rw [← e]
        exact hmg0
      exact K03RWA.facts rfl (fun ns hl _ => K03RWA.law_ok ns hl) Y G hmg
