import PyProof.Rows.All
import Wide.All
import OpenK.AllK
import Wide.FinOn
import HandS.ForMost
import HandS.Wide
import HandS.WideMore
import HandS.Gcd
import HandS.IsInst
import HandS.Flow
import HandS.Style
import HandS.TupAny
import HandS.TupLe
import HandS.TupMul
import HandS.Conv
import HandS.SortRule
import HandS.TupSets
import HandS.DictTup
import HandS.Text
import HandS.Deep
import HandS.SortInts
import HandS.WordsExc
import HandS.RaiseMore
import HandS.Small
import HandS.Dict
import HandS.Zip
import HandS.ExcIs
import PySem.Challenge.RW_roomyway_k05_apart_or_with_a_common_poin
set_option Elab.async false
set_option linter.all false
set_option maxRecDepth 100000
set_option autoImplicit false
/-! PL1: data, cells, a store; how they lie in the layer's abstract heap; readings by a mirror. -/
namespace PL
open PySem PySem.Spec PyProof.Rows L2

inductive D where
  | non | bl (b : Bool) | int (i : Int) | str (x : Str) | tup (xs : List D) | flst (xs : List D) | vls (xs : List D) | ptr (n : Nat)

inductive Cell where
  | lst (xs : List D)
  | dK (kvs : List (Key × D))
  | dT (kvs : List (List Key × D))
  | ins (C : Str) (fs : List (Str × D))
  | fK (kvs : List (Key × D))
abbrev S := List Cell

inductive R (α : Type) where
  | stuck | ok (a : α) (s : S) | exc (c : Str) (s : S)
def M (α : Type) := S → R α
def M.pure {α} (a : α) : M α := fun s => .ok a s
def M.bind {α β} (m : M α) (f : α → M β) : M β := fun s => match m s with
  | .stuck => .stuck | .ok a s' => f a s' | .exc c s' => .exc c s'
instance : Monad M where
  pure := M.pure
  bind := M.bind
def stuck {α} : M α := fun _ => .stuck
theorem pure_run {α} (a : α) (s : S) : (Pure.pure a : M α) s = .ok a s := rfl
theorem bind_run {α β} (m : M α) (f : α → M β) (s : S) : (m >>= f) s = match m s with
  | .stuck => .stuck | .ok a s' => f a s' | .exc c s' => .exc c s' := rfl
theorem stuck_run {α} (s : S) : (stuck : M α) s = .stuck := rfl
theorem bind_ok {α β} {m : M α} {f : α → M β} {s s' : S} {a : α} (h : m s = .ok a s') : (m >>= f) s = f a s' := by
  rw [bind_run, h]
theorem bind_exc {α β} {m : M α} {f : α → M β} {s s' : S} {c : Str} (h : m s = .exc c s') : (m >>= f) s = .exc c s' := by
  rw [bind_run, h]
abbrev Env := List (Option D)

/-! ### how a store lies in the heap -/
/-- where the cells stand; what is being made and must not be named -/
structure Mu where
  c : List Addr
  h : List Addr
def Mu.add (μ : Mu) (p : Addr) : Mu := ⟨μ.c ++ [p], μ.h⟩
def Mu.hide (μ : Mu) (p : Addr) : Mu := ⟨μ.c, p :: μ.h⟩
/-- a list that never changes: frozen, or of the written part -/
def FrzL (K : PySem.W.Frag) (H : Hp) (a : Addr) (xs : List V) : Prop :=
  (∃ o, H a = some (.frz o (.lst xs))) ∨
    ∃ (o : Obj) (its : Array Value) (n : Nat), K.lookup a = some o ∧ o.cls = .type "list" ∧ o.dict = none ∧ o.data = .seq its n ∧ its.size ≤ sizeLine ∧ Vals xs its.toList
theorem FrzL.sqL {K : PySem.W.Frag} {H : Hp} {a : Addr} {xs : List V} (h : FrzL K H a xs) : SqL K H a xs := by
  rcases h with ⟨o, h⟩ | h
  · exact .inl (.inr ⟨o, h⟩)
  · exact .inr h
/-- a list of one's own that is no cell: nobody writes it any more -/
structure VlsL (μ : Mu) (H : Hp) (a : Addr) (xs : List V) : Prop where
  at_ : H a = some (.lst xs)
  nc : a ∉ μ.c
  nh : a ∉ μ.h
theorem VlsL.sqL {K : PySem.W.Frag} {μ : Mu} {H : Hp} {a : Addr} {xs : List V} (h : VlsL μ H a xs) : SqL K H a xs := .inl (.inl h.at_)

mutual
inductive Rep (K : PySem.W.Frag) (μ : Mu) (H : Hp) : V → D → Prop
  | non : Rep K μ H .non .non
  | bl (b : Bool) : Rep K μ H (.bl b) (.bl b)
  | int (i : Int) : Rep K μ H (.int i) (.int i)
  | str (x : Str) : Rep K μ H (.str x) (.str x)
  | tup {a : Addr} {xs : List V} {ds : List D} : SqT K H a xs → RepL K μ H xs ds → Rep K μ H (.ref a) (.tup ds)
  | flst {a : Addr} {xs : List V} {ds : List D} : FrzL K H a xs → RepL K μ H xs ds → Rep K μ H (.ref a) (.flst ds)
  | vls {a : Addr} {xs : List V} {ds : List D} : VlsL μ H a xs → RepL K μ H xs ds → Rep K μ H (.ref a) (.vls ds)
  | ptr {a : Addr} {n : Nat} : μ.c[n]? = some a → Rep K μ H (.ref a) (.ptr n)
inductive RepL (K : PySem.W.Frag) (μ : Mu) (H : Hp) : List V → List D → Prop
  | nil : RepL K μ H [] []
  | cons {v : V} {vs : List V} {d : D} {ds : List D} : Rep K μ H v d → RepL K μ H vs ds → RepL K μ H (v :: vs) (d :: ds)
end

structure Grow (μ : Mu) (H : Hp) (μ' : Mu) (H' : Hp) : Prop where
  pre : ∃ t, μ'.c = μ.c ++ t
  hid : ∃ u, μ'.h = u ++ μ.h ∧ ∀ p ∈ u, H p = none
  tup : ∀ a xs, H a = some (.tup xs) → H' a = some (.tup xs)
  frz : ∀ a o u, H a = some (.frz o u) → H' a = some (.frz o u)
  frm : ∀ a o, H a = some o → a ∉ μ'.c → H' a = some o
  new : ∀ a, a ∈ μ'.c → a ∈ μ.c ∨ H a = none
  trk : ∀ a, H' a = none → H a = none
theorem Grow.refl (μ : Mu) (H : Hp) : Grow μ H μ H := ⟨⟨[], (List.append_nil μ.c).symm⟩, ⟨[], rfl, fun _ h => nomatch h⟩, fun _ _ h => h, fun _ _ _ h => h, fun _ _ h _ => h, fun _ h => .inl h, fun _ h => h⟩
theorem Grow.trans {μ μ1 μ2 : Mu} {H H1 H2 : Hp} (a : Grow μ H μ1 H1) (b : Grow μ1 H1 μ2 H2) : Grow μ H μ2 H2 := by
  obtain ⟨⟨t, ht⟩, ah, a2, a3, a4, a5, a6⟩ := a
  obtain ⟨⟨u, hu⟩, bh, b2, b3, b4, b5, b6⟩ := b
  refine ⟨⟨t ++ u, by rw [hu, ht, List.append_assoc]⟩, (by
    obtain ⟨v, hv, kv⟩ := ah
    obtain ⟨w, hw, kw⟩ := bh
    refine ⟨w ++ v, by rw [hw, hv, List.append_assoc], fun p hp => ?_⟩
    rcases List.mem_append.mp hp with hp | hp
    · exact a6 p (kw p hp)
    · exact kv p hp), fun x xs h => b2 x xs (a2 x xs h), fun x o u h => b3 x o u (a3 x o u h), fun x o h n => b4 x o (a4 x o h fun z => n ?_) n, fun x h => ?_, fun x h => a6 x (b6 x h)⟩
  · rw [hu]
    exact List.mem_append_left _ z
  · rcases b5 x h with h | h
    · exact a5 x h
    · exact .inr (a6 x h)
theorem Grow.at {μ μ' : Mu} {H H' : Hp} (g : Grow μ H μ' H') {n : Nat} {a : Addr} (h : μ.c[n]? = some a) : μ'.c[n]? = some a := by
  obtain ⟨t, e⟩ := g.pre
  rw [e, List.getElem?_append_left (List.getElem?_eq_some_iff.mp h).1]
  exact h
theorem Grow.sqT {K : PySem.W.Frag} {μ μ' : Mu} {H H' : Hp} (g : Grow μ H μ' H') {a : Addr} {xs : List V} (h : SqT K H a xs) : SqT K H' a xs := by
  rcases h with (h | ⟨o, h⟩) | h
  · exact .inl (.inl (g.tup _ _ h))
  · exact .inl (.inr ⟨o, g.frz _ _ _ h⟩)
  · exact .inr h
theorem Grow.frzL {K : PySem.W.Frag} {μ μ' : Mu} {H H' : Hp} (g : Grow μ H μ' H') {a : Addr} {xs : List V} (h : FrzL K H a xs) : FrzL K H' a xs := by
  rcases h with ⟨o, h⟩ | h
  · exact .inl ⟨o, g.frz _ _ _ h⟩
  · exact .inr h
theorem Grow.vls {μ μ' : Mu} {H H' : Hp} (g : Grow μ H μ' H') {a : Addr} {xs : List V} (h : VlsL μ H a xs) : VlsL μ' H' a xs := by
  have n3 : a ∉ μ'.c := fun z => by
    rcases g.new a z with z | z
    · exact h.nc z
    · rw [h.at_] at z
      cases z
  refine ⟨g.frm _ _ h.at_ n3, n3, fun z => ?_⟩
  obtain ⟨u, hu, ku⟩ := g.hid
  rw [hu] at z
  rcases List.mem_append.mp z with z | z
  · have := ku a z
    rw [h.at_] at this
    cases this
  · exact h.nh z

mutual
theorem Rep.grow {K : PySem.W.Frag} {μ μ' : Mu} {H H' : Hp} (g : Grow μ H μ' H') : ∀ (d : D) (v : V), Rep K μ H v d → Rep K μ' H' v d
  | .non, _, h => by cases h; exact .non
  | .bl b, _, h => by cases h; exact .bl b
  | .int i, _, h => by cases h; exact .int i
  | .str x, _, h => by cases h; exact .str x
  | .tup ds, _, h => by
    cases h with
    | tup hs hl => exact .tup (g.sqT hs) (RepL.grow g ds _ hl)
  | .flst ds, _, h => by
    cases h with
    | flst hs hl => exact .flst (g.frzL hs) (RepL.grow g ds _ hl)
  | .vls ds, _, h => by
    cases h with
    | vls hs hl => exact .vls (g.vls hs) (RepL.grow g ds _ hl)
  | .ptr n, _, h => by
    cases h with
    | ptr e => exact .ptr (g.at e)
theorem RepL.grow {K : PySem.W.Frag} {μ μ' : Mu} {H H' : Hp} (g : Grow μ H μ' H') : ∀ (ds : List D) (vs : List V), RepL K μ H vs ds → RepL K μ' H' vs ds
  | [], _, h => by cases h; exact .nil
  | d :: ds, _, h => by
    cases h with
    | cons h1 h2 => exact .cons (Rep.grow g d _ h1) (RepL.grow g ds _ h2)
end
/-- .. what is hidden may have changed -/
structure GrowW (μ : Mu) (H : Hp) (μ' : Mu) (H' : Hp) : Prop where
  pre : ∃ t, μ'.c = μ.c ++ t
  hid : ∃ u, μ'.h = u ++ μ.h ∧ ∀ p ∈ u, H p = none
  tup : ∀ a xs, H a = some (.tup xs) → H' a = some (.tup xs)
  frz : ∀ a o u, H a = some (.frz o u) → H' a = some (.frz o u)
  frm : ∀ a o, H a = some o → a ∉ μ'.c → a ∉ μ.h → H' a = some o
  new : ∀ a, a ∈ μ'.c → a ∈ μ.c ∨ H a = none
  trk : ∀ a, H' a = none → H a = none
theorem Grow.w {μ μ' : Mu} {H H' : Hp} (g : Grow μ H μ' H') : GrowW μ H μ' H' := ⟨g.pre, g.hid, g.tup, g.frz, fun a o h n _ => g.frm a o h n, g.new, g.trk⟩
theorem GrowW.trans {μ μ1 μ2 : Mu} {H H1 H2 : Hp} (a : GrowW μ H μ1 H1) (b : GrowW μ1 H1 μ2 H2) : GrowW μ H μ2 H2 := by
  obtain ⟨⟨t, ht⟩, ah, a2, a3, a4, a5, a6⟩ := a
  obtain ⟨⟨u, hu⟩, bh, b2, b3, b4, b5, b6⟩ := b
  obtain ⟨v, hv, kv⟩ := ah
  obtain ⟨w, hw, kw⟩ := bh
  refine ⟨⟨t ++ u, by rw [hu, ht, List.append_assoc]⟩, ⟨w ++ v, by rw [hw, hv, List.append_assoc], fun p hp => ?_⟩, fun x xs h => b2 x xs (a2 x xs h), fun x o u h => b3 x o u (a3 x o u h), fun x o h n m => ?_, fun x h => ?_, fun x h => a6 x (b6 x h)⟩
  · rcases List.mem_append.mp hp with hp | hp
    · exact a6 p (kw p hp)
    · exact kv p hp
  · refine b4 x o (a4 x o h (fun z => n ?_) m) n fun z => ?_
    · rw [hu]
      exact List.mem_append_left _ z
    · rw [hv] at z
      rcases List.mem_append.mp z with z | z
      · have := kv x z
        rw [h] at this
        cases this
      · exact m z
  · rcases b5 x h with h | h
    · exact a5 x h
    · exact .inr (a6 x h)
theorem GrowW.at {μ μ' : Mu} {H H' : Hp} (g : GrowW μ H μ' H') {n : Nat} {a : Addr} (h : μ.c[n]? = some a) : μ'.c[n]? = some a := by
  obtain ⟨t, e⟩ := g.pre
  rw [e, List.getElem?_append_left (List.getElem?_eq_some_iff.mp h).1]
  exact h
theorem GrowW.sqT {K : PySem.W.Frag} {μ μ' : Mu} {H H' : Hp} (g : GrowW μ H μ' H') {a : Addr} {xs : List V} (h : SqT K H a xs) : SqT K H' a xs := by
  rcases h with (h | ⟨o, h⟩) | h
  · exact .inl (.inl (g.tup _ _ h))
  · exact .inl (.inr ⟨o, g.frz _ _ _ h⟩)
  · exact .inr h
theorem GrowW.frzL {K : PySem.W.Frag} {μ μ' : Mu} {H H' : Hp} (g : GrowW μ H μ' H') {a : Addr} {xs : List V} (h : FrzL K H a xs) : FrzL K H' a xs := by
  rcases h with ⟨o, h⟩ | h
  · exact .inl ⟨o, g.frz _ _ _ h⟩
  · exact .inr h
theorem GrowW.vls {μ μ' : Mu} {H H' : Hp} (g : GrowW μ H μ' H') {a : Addr} {xs : List V} (h : VlsL μ H a xs) : VlsL μ' H' a xs := by
  have n3 : a ∉ μ'.c := fun z => by
    rcases g.new a z with z | z
    · exact h.nc z
    · rw [h.at_] at z
      cases z
  refine ⟨g.frm _ _ h.at_ n3 h.nh, n3, fun z => ?_⟩
  obtain ⟨u, hu, ku⟩ := g.hid
  rw [hu] at z
  rcases List.mem_append.mp z with z | z
  · have := ku a z
    rw [h.at_] at this
    cases this
  · exact h.nh z
mutual
theorem Rep.growW {K : PySem.W.Frag} {μ μ' : Mu} {H H' : Hp} (g : GrowW μ H μ' H') : ∀ (d : D) (v : V), Rep K μ H v d → Rep K μ' H' v d
  | .non, _, h => by cases h; exact .non
  | .bl b, _, h => by cases h; exact .bl b
  | .int i, _, h => by cases h; exact .int i
  | .str x, _, h => by cases h; exact .str x
  | .tup ds, _, h => by
    cases h with
    | tup hs hl => exact .tup (g.sqT hs) (RepL.growW g ds _ hl)
  | .flst ds, _, h => by
    cases h with
    | flst hs hl => exact .flst (g.frzL hs) (RepL.growW g ds _ hl)
  | .vls ds, _, h => by
    cases h with
    | vls hs hl => exact .vls (g.vls hs) (RepL.growW g ds _ hl)
  | .ptr n, _, h => by
    cases h with
    | ptr e => exact .ptr (g.at e)
theorem RepL.growW {K : PySem.W.Frag} {μ μ' : Mu} {H H' : Hp} (g : GrowW μ H μ' H') : ∀ (ds : List D) (vs : List V), RepL K μ H vs ds → RepL K μ' H' vs ds
  | [], _, h => by cases h; exact .nil
  | d :: ds, _, h => by
    cases h with
    | cons h1 h2 => exact .cons (Rep.growW g d _ h1) (RepL.growW g ds _ h2)
end
theorem RepL.length {K : PySem.W.Frag} {μ : Mu} {H : Hp} : ∀ {vs : List V} {ds : List D}, RepL K μ H vs ds → vs.length = ds.length
  | _, _, .nil => rfl
  | _, _, .cons _ t => by rw [List.length_cons, List.length_cons, RepL.length t]
theorem RepL.get {K : PySem.W.Frag} {μ : Mu} {H : Hp} : ∀ {vs : List V} {ds : List D} {i : Nat} {d : D}, RepL K μ H vs ds → ds[i]? = some d → ∃ v, vs[i]? = some v ∧ Rep K μ H v d
  | _, _, _, _, .nil, e => by simp at e
  | _, _, 0, _, .cons r _, e => by simp at e; subst e; exact ⟨_, rfl, r⟩
  | _, _, i + 1, d, .cons _ t, e => by
    obtain ⟨v, h1, h2⟩ := RepL.get (i := i) (d := d) t (by simpa using e)
    exact ⟨v, by simpa using h1, h2⟩
theorem RepL.getV {K : PySem.W.Frag} {μ : Mu} {H : Hp} : ∀ {vs : List V} {ds : List D} {i : Nat} {v : V}, RepL K μ H vs ds → vs[i]? = some v → ∃ d, ds[i]? = some d ∧ Rep K μ H v d
  | _, _, _, _, .nil, e => by simp at e
  | _, _, 0, _, .cons r _, e => by simp at e; subst e; exact ⟨_, rfl, r⟩
  | _, _, i + 1, d, .cons _ t, e => by
    obtain ⟨v, h1, h2⟩ := RepL.getV (i := i) (v := d) t (by simpa using e)
    exact ⟨v, by simpa using h1, h2⟩
theorem RepL.append {K : PySem.W.Frag} {μ : Mu} {H : Hp} : ∀ {vs ws : List V} {ds es : List D}, RepL K μ H vs ds → RepL K μ H ws es → RepL K μ H (vs ++ ws) (ds ++ es)
  | _, _, _, _, .nil, s => s
  | _, _, _, _, .cons r t, s => .cons r (RepL.append t s)
theorem RepL.set {K : PySem.W.Frag} {μ : Mu} {H : Hp} {v : V} {d : D} (r : Rep K μ H v d) : ∀ {vs : List V} {ds : List D} (i : Nat), RepL K μ H vs ds → RepL K μ H (vs.set i v) (ds.set i d)
  | _, _, _, .nil => .nil
  | _, _, 0, .cons _ t => .cons r t
  | _, _, i + 1, .cons q t => .cons q (RepL.set r i t)
theorem RepL.take {K : PySem.W.Frag} {μ : Mu} {H : Hp} : ∀ {vs : List V} {ds : List D} (n : Nat), RepL K μ H vs ds → RepL K μ H (vs.take n) (ds.take n)
  | _, _, 0, _ => .nil
  | _, _, _ + 1, .nil => .nil
  | _, _, n + 1, .cons r t => .cons r (RepL.take n t)
theorem RepL.drop {K : PySem.W.Frag} {μ : Mu} {H : Hp} : ∀ {vs : List V} {ds : List D} (n : Nat), RepL K μ H vs ds → RepL K μ H (vs.drop n) (ds.drop n)
  | _, _, 0, r => r
  | _, _, _ + 1, .nil => .nil
  | _, _, n + 1, .cons _ t => RepL.drop n t
theorem RepL.reverse {K : PySem.W.Frag} {μ : Mu} {H : Hp} : ∀ {vs : List V} {ds : List D}, RepL K μ H vs ds → RepL K μ H vs.reverse ds.reverse
  | _, _, .nil => .nil
  | _, _, .cons r t => by rw [List.reverse_cons, List.reverse_cons]; exact RepL.append (RepL.reverse t) (.cons r .nil)
/-- fields, values of a dict -/
def RepK {κ : Type} (K : PySem.W.Frag) (μ : Mu) (H : Hp) (xs : List (κ × V)) (ds : List (κ × D)) : Prop := xs.map (·.1) = ds.map (·.1) ∧ RepL K μ H (xs.map (·.2)) (ds.map (·.2))
theorem RepK.grow {κ : Type} {K : PySem.W.Frag} {μ μ' : Mu} {H H' : Hp} (g : Grow μ H μ' H') {xs : List (κ × V)} {ds : List (κ × D)} (h : RepK K μ H xs ds) : RepK K μ' H' xs ds := ⟨h.1, RepL.grow g _ _ h.2⟩

/-- the class of this name stands at c -/
def ClsAt (K : PySem.W.Frag) (x : Str) (c : Addr) : Prop := PySem.W.nsIn K mainGlobals x = some (some (.ref c))
theorem ClsAt.inj {K : PySem.W.Frag} {x : Str} {a b : Addr} (h : ClsAt K x a) (k : ClsAt K x b) : a = b := by
  unfold ClsAt at *
  rw [h] at k
  injection k with k
  injection k with k
  injection k
def CellOk (K : PySem.W.Frag) (μ : Mu) (H : Hp) (a : Addr) : Cell → Prop
  | .lst ds => ∃ xs, H a = some (.lst xs) ∧ RepL K μ H xs ds
  | .dK kvs => ∃ xs, H a = some (.dK xs) ∧ RepK K μ H xs kvs
  | .dT kvs => ∃ xs, H a = some (.dT xs) ∧ RepK K μ H xs kvs
  | .ins C fs => ∃ c dx xs, ClsAt K C c ∧ H a = some (.ins c dx xs) ∧ RepK K μ H xs fs
  | .fK kvs => ∃ o xs, H a = some (.frz o (.dK xs)) ∧ RepK K μ H xs kvs
/-- what a cell's object is: one that may be written, or a locked dict -/
def Cel (o : HO) : Prop := Mut (some o) ∨ ∃ od xs, o = .frz od (.dK xs)
structure SimS (K : PySem.W.Frag) (μ : Mu) (H : Hp) (s : S) : Prop where
  len : μ.c.length = s.length
  nd : μ.c.Nodup
  hok : ∀ p ∈ μ.h, H p ≠ none
  dis : ∀ p ∈ μ.h, p ∉ μ.c
  cell : ∀ (n : Nat) (c : Cell), s[n]? = some c → ∃ a, μ.c[n]? = some a ∧ CellOk K μ H a c
structure SimV (K : PySem.W.Frag) (μ : Mu) (H : Hp) (σ : L2.St) (env : Env) : Prop where
  len : σ.length = env.length
  val : ∀ (i : Nat) (d : D), env[i]? = some (some d) → ∃ v, σ[i]? = some (some v) ∧ Rep K μ H v d
theorem SimV.grow {K : PySem.W.Frag} {μ μ' : Mu} {H H' : Hp} {σ : L2.St} {env : Env} (g : Grow μ H μ' H') (h : SimV K μ H σ env) : SimV K μ' H' σ env :=
  ⟨h.len, fun i d e => let ⟨v, h1, h2⟩ := h.val i d e; ⟨v, h1, Rep.grow g d v h2⟩⟩
theorem SimV.set {K : PySem.W.Frag} {μ : Mu} {H : Hp} {σ : L2.St} {env : Env} {v : V} {d : D} (h : SimV K μ H σ env) (r : Rep K μ H v d) (i : Nat) : SimV K μ H (σ.set i (some v)) (env.set i (some d)) := by
  refine ⟨by rw [List.length_set, List.length_set, h.len], fun j e hj => ?_⟩
  by_cases hij : i = j
  · subst hij
    by_cases hl : i < env.length
    · rw [List.getElem?_set_self hl] at hj
      cases hj
      exact ⟨v, by rw [List.getElem?_set_self (by rw [h.len]; exact hl)], r⟩
    · rw [List.getElem?_eq_none (by rw [List.length_set]; omega)] at hj
      cases hj
  · rw [List.getElem?_set_ne hij] at hj
    obtain ⟨w, h1, h2⟩ := h.val j e hj
    exact ⟨w, by rw [List.getElem?_set_ne hij]; exact h1, h2⟩
/-- what a cell is of its object: the kinds that may be written -/
theorem CellOk.mut {K : PySem.W.Frag} {μ : Mu} {H : Hp} {a : Addr} {c : Cell} (h : CellOk K μ H a c) : ∃ o, H a = some o ∧ Cel o := by
  cases c with
  | lst ds => obtain ⟨xs, e, _⟩ := h; exact ⟨_, e, .inl trivial⟩
  | dK kvs => obtain ⟨xs, e, _⟩ := h; exact ⟨_, e, .inl trivial⟩
  | dT kvs => obtain ⟨xs, e, _⟩ := h; exact ⟨_, e, .inl trivial⟩
  | ins C fs => obtain ⟨_, dx, xs, _, e, _⟩ := h; exact ⟨_, e, .inl trivial⟩
  | fK kvs => obtain ⟨o, xs, e, _⟩ := h; exact ⟨_, e, .inr ⟨o, xs, rfl⟩⟩
theorem CellOk.grow {K : PySem.W.Frag} {μ μ' : Mu} {H H' : Hp} {a : Addr} {c : Cell} (g : Grow μ H μ' H') (e : H' a = H a) (h : CellOk K μ H a c) : CellOk K μ' H' a c := by
  cases c with
  | lst ds => obtain ⟨xs, q, r⟩ := h; exact ⟨xs, e.trans q, RepL.grow g _ _ r⟩
  | dK kvs => obtain ⟨xs, q, r⟩ := h; exact ⟨xs, e.trans q, r.grow g⟩
  | dT kvs => obtain ⟨xs, q, r⟩ := h; exact ⟨xs, e.trans q, r.grow g⟩
  | ins C fs => obtain ⟨c, dx, xs, hc, q, r⟩ := h; exact ⟨c, dx, xs, hc, e.trans q, r.grow g⟩
  | fK kvs => obtain ⟨o, xs, q, r⟩ := h; exact ⟨o, xs, e.trans q, r.grow g⟩
/-- the same heap, seen with other cells -/
structure Sh (μ μ' : Mu) (H : Hp) : Prop where
  at1 : ∀ {j : Nat} {b : Addr}, μ.c[j]? = some b → μ'.c[j]? = some b
  fr : ∀ a xs, H a = some (.lst xs) → a ∉ μ.c → a ∉ μ.h → a ∉ μ'.c ∧ a ∉ μ'.h
mutual
theorem Rep.sh {K : PySem.W.Frag} {μ μ' : Mu} {H : Hp} (k : Sh μ μ' H) : ∀ (d : D) (v : V), Rep K μ H v d → Rep K μ' H v d
  | .non, _, h => by cases h; exact .non
  | .bl b, _, h => by cases h; exact .bl b
  | .int i, _, h => by cases h; exact .int i
  | .str x, _, h => by cases h; exact .str x
  | .tup ds, _, h => by
    cases h with
    | tup hs hl => exact .tup hs (RepL.sh k ds _ hl)
  | .flst ds, _, h => by
    cases h with
    | flst hs hl => exact .flst hs (RepL.sh k ds _ hl)
  | .vls ds, _, h => by
    cases h with
    | vls hs hl =>
      have q := k.fr _ _ hs.at_ hs.nc hs.nh
      exact .vls ⟨hs.at_, q.1, q.2⟩ (RepL.sh k ds _ hl)
  | .ptr n, _, h => by
    cases h with
    | ptr e => exact .ptr (k.at1 e)
theorem RepL.sh {K : PySem.W.Frag} {μ μ' : Mu} {H : Hp} (k : Sh μ μ' H) : ∀ (ds : List D) (vs : List V), RepL K μ H vs ds → RepL K μ' H vs ds
  | [], _, h => by cases h; exact .nil
  | d :: ds, _, h => by
    cases h with
    | cons h1 h2 => exact .cons (Rep.sh k d _ h1) (RepL.sh k ds _ h2)
end
theorem CellOk.sh {K : PySem.W.Frag} {μ μ' : Mu} {H : Hp} {a : Addr} {c : Cell} (k : Sh μ μ' H) (h : CellOk K μ H a c) : CellOk K μ' H a c := by
  cases c with
  | lst ds => obtain ⟨xs, q, r⟩ := h; exact ⟨xs, q, RepL.sh k _ _ r⟩
  | dK kvs => obtain ⟨xs, q, r⟩ := h; exact ⟨xs, q, r.1, RepL.sh k _ _ r.2⟩
  | dT kvs => obtain ⟨xs, q, r⟩ := h; exact ⟨xs, q, r.1, RepL.sh k _ _ r.2⟩
  | ins C fs => obtain ⟨c, dx, xs, hc, q, r⟩ := h; exact ⟨c, dx, xs, hc, q, r.1, RepL.sh k _ _ r.2⟩
  | fK kvs => obtain ⟨o, xs, q, r⟩ := h; exact ⟨o, xs, q, r.1, RepL.sh k _ _ r.2⟩
theorem SimV.sh {K : PySem.W.Frag} {μ μ' : Mu} {H : Hp} {σ : L2.St} {env : Env} (k : Sh μ μ' H) (h : SimV K μ H σ env) : SimV K μ' H σ env :=
  ⟨h.len, fun i d e => let ⟨v, h1, h2⟩ := h.val i d e; ⟨v, h1, Rep.sh k d v h2⟩⟩
theorem SimS.mem {K : PySem.W.Frag} {μ : Mu} {H : Hp} {s : S} (h : SimS K μ H s) {a : Addr} (ha : a ∈ μ.c) : ∃ o, H a = some o ∧ Cel o := by
  obtain ⟨n, hn⟩ := List.getElem?_of_mem ha
  have hl : n < s.length := by rw [← h.len]; exact (List.getElem?_eq_some_iff.mp hn).1
  obtain ⟨b, hb, hc⟩ := h.cell n s[n] (List.getElem?_eq_getElem hl)
  rw [hn] at hb
  cases hb
  exact hc.mut
theorem upd_trk {H : Hp} {p : Addr} {o : HO} : ∀ a, upd H p o a = none → H a = none := fun a h => by
  by_cases e : a = p
  · rw [e, upd_same] at h
    cases h
  · rw [upd_ne e] at h
    exact h
/-- something that is no cell is laid -/
theorem grow_new {μ : Mu} {H : Hp} {p : Addr} {o : HO} (hp : H p = none) : Grow μ H μ (upd H p o) :=
  ⟨⟨[], (List.append_nil μ.c).symm⟩, ⟨[], rfl, fun _ h => nomatch h⟩, fun a xs h => by rw [upd_ne (ne_of_none h hp)]; exact h, fun a ob u h => by rw [upd_ne (ne_of_none h hp)]; exact h, fun a ob h _ => by rw [upd_ne (ne_of_none h hp)]; exact h, fun a h => .inl h, upd_trk⟩
theorem SimS.lay {K : PySem.W.Frag} {μ : Mu} {H : Hp} {s : S} {p : Addr} {o : HO} (h : SimS K μ H s) (hp : H p = none) : SimS K μ (upd H p o) s :=
  ⟨h.len, h.nd, fun q hq z => h.hok q hq (upd_trk q z), h.dis, fun n c e => by
    obtain ⟨a, h1, h2⟩ := h.cell n c e
    obtain ⟨u, hu, _⟩ := h2.mut
    exact ⟨a, h1, h2.grow (grow_new hp) (upd_ne (ne_of_none hu hp))⟩⟩
/-- a new cell -/
theorem grow_cell {μ : Mu} {H : Hp} {p : Addr} {o : HO} (hp : H p = none) : Grow μ H (μ.add p) (upd H p o) :=
  ⟨⟨[p], rfl⟩, ⟨[], rfl, fun _ h => nomatch h⟩, fun a xs h => by rw [upd_ne (ne_of_none h hp)]; exact h, fun a ob u h => by rw [upd_ne (ne_of_none h hp)]; exact h, fun a ob h _ => by rw [upd_ne (ne_of_none h hp)]; exact h, fun a h => by
    rcases List.mem_append.mp h with h | h
    · exact .inl h
    · rw [List.mem_singleton] at h
      rw [h]
      exact .inr hp, upd_trk⟩
theorem SimS.alloc {K : PySem.W.Frag} {μ : Mu} {H : Hp} {s : S} {p : Addr} {o : HO} {c : Cell} (h : SimS K μ H s) (hp : H p = none) (hc : CellOk K (μ.add p) (upd H p o) p c) : SimS K (μ.add p) (upd H p o) (s ++ [c]) := by
  have np : p ∉ μ.c := fun hm => by
    obtain ⟨u, hu, _⟩ := h.mem hm
    rw [hp] at hu
    cases hu
  refine ⟨by show (μ.c ++ [p]).length = _; rw [List.length_append, List.length_append, h.len]; rfl, ?_, fun q hq z => h.hok q hq (upd_trk q z), fun q hq hm => ?_, fun n c' e => ?_⟩
  · show (μ.c ++ [p]).Nodup
    rw [List.nodup_append]
    exact ⟨h.nd, List.nodup_cons.mpr ⟨List.not_mem_nil, List.nodup_nil⟩, fun a ha b hb => by
      rw [List.mem_singleton] at hb
      rw [hb]
      intro z
      rw [z] at ha
      exact np ha⟩
  · rcases List.mem_append.mp hm with hm | hm
    · exact h.dis q hq hm
    · rw [List.mem_singleton.mp hm] at hq
      exact h.hok p hq hp
  · by_cases hn : n < s.length
    · rw [List.getElem?_append_left hn] at e
      obtain ⟨a, h1, h2⟩ := h.cell n c' e
      obtain ⟨u, hu, _⟩ := h2.mut
      exact ⟨a, (grow_cell (o := o) hp).at h1, h2.grow (grow_cell hp) (upd_ne (ne_of_none hu hp))⟩
    · have hn2 : n = s.length := by
        have q := (List.getElem?_eq_some_iff.mp e).1
        rw [List.length_append] at q
        simp at q
        omega
      subst hn2
      rw [List.getElem?_append_right (Nat.le_refl _)] at e
      simp at e
      subst e
      refine ⟨p, ?_, hc⟩
      show (μ.c ++ [p])[s.length]? = _
      rw [← h.len, List.getElem?_append_right (Nat.le_refl _)]
      simp
theorem add_at {K : PySem.W.Frag} {μ : Mu} {H : Hp} {s : S} {p : Addr} (hs : SimS K μ H s) : (μ.add p).c[s.length]? = some p := by
  show (μ.c ++ [p])[s.length]? = _
  rw [← hs.len, List.getElem?_append_right (Nat.le_refl _)]
  simp
theorem SimS.new {K : PySem.W.Frag} {μ : Mu} {H : Hp} {s : S} {p : Addr} (h : SimS K μ H s) (hp : H p = none) : p ∉ μ.c ∧ p ∉ μ.h :=
  ⟨fun hm => (by
    obtain ⟨u, hu, _⟩ := h.mem hm
    rw [hp] at hu
    cases hu), fun hm => h.hok p hm hp⟩
/-- a cell is written -/
theorem grow_put {μ : Mu} {H : Hp} {a : Addr} {o : HO} (hm : Mut (H a)) (ha : a ∈ μ.c) : Grow μ H μ (upd H a o) :=
  ⟨⟨[], (List.append_nil μ.c).symm⟩, ⟨[], rfl, fun _ h => nomatch h⟩, fun b xs h => by
    rw [upd_ne fun z => by rw [← z, h] at hm; exact hm]
    exact h, fun b ob u h => by
    rw [upd_ne fun z => by rw [← z, h] at hm; exact hm]
    exact h, fun b ob h n => by
    rw [upd_ne fun z => by rw [z] at n; exact n ha]
    exact h, fun b h => .inl h, upd_trk⟩
theorem SimS.put {K : PySem.W.Frag} {μ : Mu} {H : Hp} {s : S} {a : Addr} {n : Nat} {o : HO} {c : Cell} (h : SimS K μ H s) (hn : μ.c[n]? = some a) (hm : Mut (H a)) (hc : CellOk K μ (upd H a o) a c) : SimS K μ (upd H a o) (s.set n c) := by
  refine ⟨by rw [List.length_set]; exact h.len, h.nd, fun q hq z => h.hok q hq (upd_trk q z), h.dis, fun j c' e => ?_⟩
  by_cases hj : n = j
  · subst hj
    have hl : n < s.length := by rw [← h.len]; exact (List.getElem?_eq_some_iff.mp hn).1
    rw [List.getElem?_set_self hl] at e
    cases e
    exact ⟨a, hn, hc⟩
  · rw [List.getElem?_set_ne hj] at e
    obtain ⟨b, h1, h2⟩ := h.cell j c' e
    refine ⟨b, h1, h2.grow (grow_put hm (List.mem_of_getElem? hn)) (upd_ne fun z => hj ?_)⟩
    subst z
    exact nd_ix h.nd hn h1

/-! ### a list beside the store, hidden while it is made -/
theorem sh_hide {μ : Mu} {H : Hp} {p : Addr} (hp : H p = none) : Sh μ (μ.hide p) H := ⟨fun h => h, fun a xs h n1 n2 => ⟨n1, fun z => by
  rcases List.mem_cons.mp z with z | z
  · rw [z, hp] at h
    cases h
  · exact n2 z⟩⟩
theorem grow_hide {μ : Mu} {H : Hp} {p : Addr} {o : HO} (hp : H p = none) : Grow μ H (μ.hide p) (upd H p o) :=
  ⟨⟨[], (List.append_nil μ.c).symm⟩, ⟨[p], rfl, fun q hq => by rw [List.mem_singleton.mp hq]; exact hp⟩, fun a xs h => by rw [upd_ne (ne_of_none h hp)]; exact h, fun a ob u h => by rw [upd_ne (ne_of_none h hp)]; exact h, fun a ob h _ => by rw [upd_ne (ne_of_none h hp)]; exact h, fun a h => .inl h, upd_trk⟩
/-- hidden and laid at once -/
theorem SimS.hide {K : PySem.W.Frag} {μ : Mu} {H : Hp} {s : S} {p : Addr} {o : HO} (h : SimS K μ H s) (hp : H p = none) : SimS K (μ.hide p) (upd H p o) s := by
  refine ⟨h.len, h.nd, fun q hq z => ?_, fun q hq => ?_, fun n c e => ?_⟩
  · rcases List.mem_cons.mp hq with e | hq
    · rw [e, upd_same] at z
      cases z
    · exact h.hok q hq (upd_trk q z)
  · rcases List.mem_cons.mp hq with e | hq
    · rw [e]
      exact (h.new hp).1
    · exact h.dis q hq
  · obtain ⟨a, h1, h2⟩ := h.cell n c e
    obtain ⟨u, hu, _⟩ := h2.mut
    exact ⟨a, h1, (h2.sh (sh_hide hp)).grow (grow_new hp) (upd_ne (ne_of_none hu hp))⟩
theorem sh_open {c u h : List Addr} {H : Hp} {p : Addr} : Sh ⟨c, u ++ p :: h⟩ ⟨c, u ++ h⟩ H := ⟨fun h => h, fun a xs h n1 n2 => ⟨n1, fun z => n2 (by
  rcases List.mem_append.mp z with z | z
  · exact List.mem_append_left _ z
  · exact List.mem_append_right _ (List.mem_cons_of_mem _ z))⟩⟩
theorem sh_join {c u h : List Addr} {H : Hp} {p : Addr} : Sh ⟨c, u ++ p :: h⟩ ⟨c ++ [p], u ++ h⟩ H := ⟨fun q => by
  show (c ++ [p])[_]? = _
  rw [List.getElem?_append_left (List.getElem?_eq_some_iff.mp q).1]
  exact q, fun a xs _ n1 n2 => ⟨fun z => by
  rcases List.mem_append.mp z with z | z
  · exact n1 z
  · rw [List.mem_singleton] at z
    exact n2 (by rw [z]; simp), fun z => n2 (by
  rcases List.mem_append.mp z with z | z
  · exact List.mem_append_left _ z
  · exact List.mem_append_right _ (List.mem_cons_of_mem _ z))⟩⟩
theorem SimS.open {K : PySem.W.Frag} {c u h : List Addr} {H : Hp} {s : S} {p : Addr} (k : SimS K ⟨c, u ++ p :: h⟩ H s) : SimS K ⟨c, u ++ h⟩ H s :=
  have m : ∀ {q : Addr}, q ∈ u ++ h → q ∈ u ++ p :: h := fun z => by
    rcases List.mem_append.mp z with z | z
    · exact List.mem_append_left _ z
    · exact List.mem_append_right _ (List.mem_cons_of_mem _ z)
  ⟨k.len, k.nd, fun q hq => k.hok q (m hq), fun q hq => k.dis q (m hq), fun n x e => by
    obtain ⟨a, h1, h2⟩ := k.cell n x e
    exact ⟨a, h1, h2.sh sh_open⟩⟩
/-- it joins the store -/
theorem SimS.join {K : PySem.W.Frag} {c u h : List Addr} {H : Hp} {s : S} {p : Addr} {x : Cell} (k : SimS K ⟨c, u ++ p :: h⟩ H s) (np : p ∉ u ++ h) (hc : CellOk K ⟨c ++ [p], u ++ h⟩ H p x) : SimS K ⟨c ++ [p], u ++ h⟩ H (s ++ [x]) := by
  have m : ∀ {q : Addr}, q ∈ u ++ h → q ∈ u ++ p :: h := fun z => by
    rcases List.mem_append.mp z with z | z
    · exact List.mem_append_left _ z
    · exact List.mem_append_right _ (List.mem_cons_of_mem _ z)
  have nc : p ∉ c := k.dis p (by simp)
  refine ⟨by show (c ++ [p]).length = _; have := k.len; rw [List.length_append, List.length_append]; simp at this ⊢; exact this, ?_, fun q hq => k.hok q (m hq), fun q hq hm => ?_, fun n c' e => ?_⟩
  · show (c ++ [p]).Nodup
    rw [List.nodup_append]
    exact ⟨k.nd, List.nodup_cons.mpr ⟨List.not_mem_nil, List.nodup_nil⟩, fun a ha b hb => by
      rw [List.mem_singleton] at hb
      rw [hb]
      intro z
      rw [z] at ha
      exact nc ha⟩
  · rcases List.mem_append.mp hm with hm | hm
    · exact k.dis q (m hq) hm
    · rw [List.mem_singleton.mp hm] at hq
      exact np hq
  · by_cases hn : n < s.length
    · rw [List.getElem?_append_left hn] at e
      obtain ⟨a, h1, h2⟩ := k.cell n c' e
      exact ⟨a, (sh_join (H := H)).at1 h1, h2.sh sh_join⟩
    · have hn2 : n = s.length := by
        have q := (List.getElem?_eq_some_iff.mp e).1
        rw [List.length_append] at q
        simp at q
        omega
      subst hn2
      rw [List.getElem?_append_right (Nat.le_refl _)] at e
      simp at e
      subst e
      refine ⟨p, ?_, hc⟩
      have e1 : c.length = s.length := k.len
      show (c ++ [p])[s.length]? = _
      rw [← e1, List.getElem?_append_right (Nat.le_refl _)]
      simp

/-! ### what is wanted behind a mirror's answer -/
section
variable (K : PySem.W.Frag) (E : XK)
def Post {α : Type} (μ : Mu) (H : Hp) (r : R α) (q : α → S → Mu → Hp → Prop) : Prop := match r with
  | .stuck => False
  | .ok a s' => ∀ μ' H', Grow μ H μ' H' → SimS K μ' H' s' → q a s' μ' H'
  | .exc c s' => ∀ C, ClsAt K c C → ∀ μ' H', Grow μ H μ' H' → SimS K μ' H' s' → E (.ref C) none H'
end
section
variable {K : PySem.W.Frag} {E : XK} {α β : Type} {μ μ1 : Mu} {H H1 : Hp}
theorem Post.mono {r : R α} {q q' : α → S → Mu → Hp → Prop} (h : Post K E μ H r q) (f : ∀ a s' μ' H', Grow μ H μ' H' → SimS K μ' H' s' → q a s' μ' H' → q' a s' μ' H') : Post K E μ H r q' := by
  cases r with
  | stuck => exact h
  | ok a s' => exact fun μ' H' g hs => f a s' μ' H' g hs (h μ' H' g hs)
  | exc c s' => exact h
theorem Post.later {r : R α} {q : α → S → Mu → Hp → Prop} (g : Grow μ H μ1 H1) (h : Post K E μ H r q) : Post K E μ1 H1 r q := by
  cases r with
  | stuck => exact h
  | ok a s' => exact fun μ' H' g' hs => h μ' H' (g.trans g') hs
  | exc c s' => exact fun C hC μ' H' g' hs => h C hC μ' H' (g.trans g') hs
theorem Post.bind {m : M α} {f : α → M β} {s : S} {q : β → S → Mu → Hp → Prop} (h : Post K E μ H ((m >>= f) s) q) : Post K E μ H (m s) (fun a s1 μ1 H1 => Post K E μ1 H1 (f a s1) q) := by
  rw [bind_run] at h
  cases e : m s with
  | stuck => rw [e] at h; exact h
  | ok a s' =>
    rw [e] at h
    exact fun μ' H' g hs => Post.later g h
  | exc c s' => rw [e] at h; exact h
theorem Post.now {a : α} {s : S} {q : α → S → Mu → Hp → Prop} (h : Post K E μ H (.ok a s) q) (hs : SimS K μ H s) : q a s μ H := h μ H (Grow.refl μ H) hs
end
def okD (K : PySem.W.Frag) (Q : VK) (d : D) (_ : S) (μ : Mu) (H : Hp) : Prop := ∀ v, Rep K μ H v d → Q v H
def okL (K : PySem.W.Frag) (Q : List V → Hp → Prop) (ds : List D) (_ : S) (μ : Mu) (H : Hp) : Prop := ∀ vs, RepL K μ H vs ds → Q vs H
def okB (Q : Bool → Hp → Prop) (b : Bool) (_ : S) (_ : Mu) (H : Hp) : Prop := Q b H
inductive Out where
  | nx (env : Env) | rt (d : D) | bk (env : Env) | ct (env : Env)
def okO (K : PySem.W.Frag) (Dd : Ends) (o : Out) (_ : S) (μ : Mu) (H : Hp) : Prop := match o with
  | .nx env => ∀ σ, SimV K μ H σ env → Dd.nx σ H
  | .rt d => ∀ v, Rep K μ H v d → Dd.rt v H
  | .bk env => ∀ σ, SimV K μ H σ env → Dd.bk σ H
  | .ct env => ∀ σ, SimV K μ H σ env → Dd.ct σ H

def TEof (K : PySem.W.Frag) (E : XK) (m : Env → M D) : TE := fun σ H Q => ∃ μ env s, SimV K μ H σ env ∧ SimS K μ H s ∧ Post K E μ H (m env s) (okD K Q)
def TTof (K : PySem.W.Frag) (E : XK) (m : Env → M Bool) : TT := fun σ H Q => ∃ μ env s, SimV K μ H σ env ∧ SimS K μ H s ∧ Post K E μ H (m env s) (okB Q)
def TAof (K : PySem.W.Frag) (E : XK) (m : Env → M (List D)) : TA := fun σ H Q => ∃ μ env s, SimV K μ H σ env ∧ SimS K μ H s ∧ Post K E μ H (m env s) (okL K Q)
def TSof (K : PySem.W.Frag) (E : XK) (m : Env → M Out) : TS := fun Dd σ H => ∃ μ env s, SimV K μ H σ env ∧ SimS K μ H s ∧ Post K E μ H (m env s) (okO K Dd)
def SE (X : Cx) (E : XK) (e : Expr) (m : Env → M D) : Prop := PE X e (TEof X.K E m)
def ST (X : Cx) (E : XK) (e : Expr) (m : Env → M Bool) : Prop := PT X e (TTof X.K E m)
def SW (X : Cx) (E : XK) (e : Expr) (m : Env → M Bool) : Prop := PW X e (TTof X.K E m)
def SA (X : Cx) (E : XK) (es : List Expr) (m : Env → M (List D)) : Prop := PA X es (TAof X.K E m)
def SS (X : Cx) (E : XK) (st : Stmt) (m : Env → M Out) : Prop := PS X st (TSof X.K E m)
def SSs (X : Cx) (E : XK) (sts : List Stmt) (m : Env → M Out) : Prop := PSs X sts (TSof X.K E m)

theorem PE.imp {X : Cx} {e : Expr} {t t' : TE} (h : PE X e t) (f : ∀ σ H Q, t' σ H Q → t σ H Q) : PE X e t' := ⟨fun pins s σ H Q I q => h.run pins s σ H Q I (f σ H Q q)⟩
theorem PT.imp {X : Cx} {e : Expr} {t t' : TT} (h : PT X e t) (f : ∀ σ H Q, t' σ H Q → t σ H Q) : PT X e t' := ⟨fun pins s σ H Q I q => h.run pins s σ H Q I (f σ H Q q)⟩
theorem PW.imp {X : Cx} {e : Expr} {t t' : TT} (h : PW X e t) (f : ∀ σ H Q, t' σ H Q → t σ H Q) : PW X e t' := ⟨fun wh pins s σ H Q I q => h.run wh pins s σ H Q I (f σ H Q q)⟩
theorem PA.imp {X : Cx} {es : List Expr} {t t' : TA} (h : PA X es t) (f : ∀ σ H Q, t' σ H Q → t σ H Q) : PA X es t' := ⟨fun p pins s σ H Q I q => h.run p pins s σ H Q I (f σ H Q q)⟩
theorem PS.imp {X : Cx} {st : Stmt} {t t' : TS} (h : PS X st t) (f : ∀ Dd σ H, t' Dd σ H → t Dd σ H) : PS X st t' := ⟨fun pins s σ H Dd I q => h.run pins s σ H Dd I (f Dd σ H q)⟩
theorem PSs.imp {X : Cx} {st : List Stmt} {t t' : TS} (h : PSs X st t) (f : ∀ Dd σ H, t' Dd σ H → t Dd σ H) : PSs X st t' := ⟨fun pins s σ H Dd I q => h.run pins s σ H Dd I (f Dd σ H q)⟩
end PL

/-! PL2: operators, comparisons, calls of built-ins: what they are of data. -/
namespace PL
open PySem PySem.Spec PyProof.Rows L2

/-! ### readings by a function of data -/
section
variable (K : PySem.W.Frag) (E : XK)
def R2of (f : D → D → M D) : R2 := fun x y H Q => ∃ μ s dx dy, SimS K μ H s ∧ Rep K μ H x dx ∧ Rep K μ H y dy ∧ Post K E μ H (f dx dy s) (okD K Q)
def R1of (f : D → M D) : V → Hp → VK → Prop := fun x H Q => ∃ μ s dx, SimS K μ H s ∧ Rep K μ H x dx ∧ Post K E μ H (f dx s) (okD K Q)
def RLof (f : List D → M D) : List V → Hp → VK → Prop := fun xs H Q => ∃ μ s ds, SimS K μ H s ∧ RepL K μ H xs ds ∧ Post K E μ H (f ds s) (okD K Q)
def RMof (f : D → List D → M D) : V → List V → Hp → VK → Prop := fun x xs H Q => ∃ μ s dx ds, SimS K μ H s ∧ Rep K μ H x dx ∧ RepL K μ H xs ds ∧ Post K E μ H (f dx ds s) (okD K Q)
def RBof (f : D → M Bool) : V → Hp → (Bool → Hp → Prop) → Prop := fun x H Q => ∃ μ s dx, SimS K μ H s ∧ Rep K μ H x dx ∧ Post K E μ H (f dx s) (okB Q)
end

/-! ### sizes -/
def Bt (n : Nat) (i : Int) : Prop := i.natAbs < 2 ^ n
theorem Bt.mono {m n : Nat} {i : Int} (h : Bt m i) (l : m ≤ n) : Bt n i := Nat.lt_of_lt_of_le h (Nat.pow_le_pow_right (by decide) l)
theorem Bt.mul {m n : Nat} {i j : Int} (h : Bt m i) (k : Bt n j) : Bt (m + n) (i * j) := by
  unfold Bt at *
  rw [Int.natAbs_mul, Nat.pow_add]
  exact Nat.mul_lt_mul'' h k
theorem Bt.add {n : Nat} {i j : Int} (h : Bt n i) (k : Bt n j) : Bt (n + 1) (i + j) := by
  unfold Bt at *
  have := Int.natAbs_add_le i j
  rw [Nat.pow_succ]
  omega
theorem Bt.sub {n : Nat} {i j : Int} (h : Bt n i) (k : Bt n j) : Bt (n + 1) (i - j) := by
  unfold Bt at *
  have := Int.natAbs_sub_le i j
  rw [Nat.pow_succ]
  omega
theorem Bt.neg {n : Nat} {i : Int} (h : Bt n i) : Bt n (-i) := by
  unfold Bt at *
  rw [Int.natAbs_neg]
  exact h
theorem Bt.le {n : Nat} {i j : Int} (h : Bt n i) (l : j.natAbs ≤ i.natAbs) : Bt n j := Nat.lt_of_le_of_lt l h
structure MulOk (i j : Int) : Prop where
  ok : (-18446744073709551616 < i ∧ i < 18446744073709551616) ∨ (-18446744073709551616 < j ∧ j < 18446744073709551616) ∨ (Bt 400000 i ∧ Bt 400000 j)
structure DivOk (j : Int) : Prop where
  ok : Bt 9000 j
structure PowOk (i j : Int) : Prop where
  ok : (0 ≤ j ∧ j ≤ 1000) ∧ (-18446744073709551616 < i ∧ i < 18446744073709551616)
noncomputable instance decMulOk (i j : Int) : Decidable (MulOk i j) := Classical.propDecidable _
noncomputable instance decDivOk (j : Int) : Decidable (DivOk j) := Classical.propDecidable _
noncomputable instance decPowOk (i j : Int) : Decidable (PowOk i j) := Classical.propDecidable _
theorem mulOk_b {i j : Int} (h : Bt 400000 i) (k : Bt 400000 j) : MulOk i j := ⟨.inr (.inr ⟨h, k⟩)⟩
theorem mulOk_l {i j : Int} (h : -18446744073709551616 < i) (k : i < 18446744073709551616) : MulOk i j := ⟨.inl ⟨h, k⟩⟩
theorem mulOk_r {i j : Int} (h : -18446744073709551616 < j) (k : j < 18446744073709551616) : MulOk i j := ⟨.inr (.inl ⟨h, k⟩)⟩

/-! ### operators -/
def allocC (c : Cell) : M D := fun s => .ok (.ptr s.length) (s ++ [c])
/-- a list of one's own -/
def lcD (s : S) (x : D) : Option (List D) := match x with
  | .vls ds => some ds
  | .ptr n => match s[n]? with
    | some (.lst ds) => some ds
    | _ => none
  | _ => none
def catD (x y : D) : M D := fun s => match lcD s x, lcD s y with
  | some a, some b => if a.length + b.length ≤ 100000 then .ok (.vls (a ++ b)) s else .stuck
  | _, _ => .stuck
def addD : D → D → M D
  | .int i, .int j => pure (.int (i + j))
  | .int i, .bl k => pure (.int (i + b2i k))
  | .str a, .str b => if a.length + b.length ≤ 100000 then pure (.str (a ++ b)) else stuck
  | .tup a, .tup b => if a.length + b.length ≤ 100000 then pure (.tup (a ++ b)) else stuck
  | x, y => catD x y
def subD : D → D → M D
  | .int i, .int j => pure (.int (i - j))
  | _, _ => stuck
noncomputable def mulD : D → D → M D
  | .int i, .int j => if MulOk i j then pure (.int (i * j)) else stuck
  | _, _ => stuck
noncomputable def fdivD : D → D → M D
  | .int i, .int j => if DivOk j then (if j = 0 then stuck else pure (.int (if 0 < j then i / j else i.fdiv j))) else stuck
  | _, _ => stuck
def modD : D → D → M D
  | .int i, .int j => if j = 0 then stuck else pure (.int (if 0 < j then i % j else i.fmod j))
  | _, _ => stuck
noncomputable def powD : D → D → M D
  | .int i, .int j => if PowOk i j then pure (.int (i ^ j.toNat)) else stuck
  | _, _ => stuck
def negD : D → M D
  | .int i => pure (.int (-i))
  | _ => stuck

section
variable {X : Cx} {E : XK}
theorem sz_ok {n : Nat} (h : n ≤ 100000) : n ≤ sizeLine := Nat.le_trans h (by decide)
/-- a list laid -/
theorem post_alloc {K : PySem.W.Frag} {μ : Mu} {H : Hp} {s : S} {ds : List D} {xs : List V} {Q : VK} (hs : SimS K μ H s) (r : RepL K μ H xs ds) (h : Post K E μ H (allocC (.lst ds) s) (okD K Q)) : ∀ p, H p = none → Q (.ref p) (upd H p (.lst xs)) := fun p hp => by
  have hs2 : SimS K (μ.add p) (upd H p (.lst xs)) (s ++ [.lst ds]) := hs.alloc hp ⟨xs, upd_same, RepL.grow (grow_cell hp) _ _ r⟩
  exact h _ _ (grow_cell hp) hs2 (.ref p) (.ptr (add_at hs))
/-- a list laid beside the store -/
theorem post_vls {K : PySem.W.Frag} {μ : Mu} {H : Hp} {s : S} {ds : List D} {xs : List V} {Q : VK} (hs : SimS K μ H s) (r : RepL K μ H xs ds) (h : Post K E μ H (.ok (.vls ds) s) (okD K Q)) : ∀ p, H p = none → Q (.ref p) (upd H p (.lst xs)) := fun p hp =>
  h _ _ (grow_new hp) (hs.lay hp) (.ref p) (.vls ⟨upd_same, (hs.new hp).1, (hs.new hp).2⟩ (RepL.grow (grow_new hp) _ _ r))
/-- a tuple laid -/
theorem post_tup {K : PySem.W.Frag} {μ : Mu} {H : Hp} {s : S} {ds : List D} {xs : List V} {Q : VK} (hs : SimS K μ H s) (r : RepL K μ H xs ds) (h : Post K E μ H (.ok (.tup ds) s) (okD K Q)) : ∀ p, H p = none → Q (.ref p) (upd H p (.tup xs)) := fun p hp =>
  h _ _ (grow_new hp) (hs.lay hp) (.ref p) (.tup (SqT.of upd_same) (RepL.grow (grow_new hp) _ _ r))
theorem post_val {K : PySem.W.Frag} {μ : Mu} {H : Hp} {s : S} {d : D} {v : V} {Q : VK} (hs : SimS K μ H s) (h : Post K E μ H (.ok d s) (okD K Q)) (r : Rep K μ H v d) : Q v H := Post.now h hs v r
theorem post_bl {K : PySem.W.Frag} {μ : Mu} {H : Hp} {s : S} {d : Bool} {Q : VK} (hs : SimS K μ H s) (h : Post K E μ H (.ok (.bl d) s) (okD K Q)) : Q (.bl d) H := Post.now h hs _ (.bl d)
theorem post_int {K : PySem.W.Frag} {μ : Mu} {H : Hp} {s : S} {d : Int} {Q : VK} (hs : SimS K μ H s) (h : Post K E μ H (.ok (.int d) s) (okD K Q)) : Q (.int d) H := Post.now h hs _ (.int d)
theorem post_str {K : PySem.W.Frag} {μ : Mu} {H : Hp} {s : S} {d : Str} {Q : VK} (hs : SimS K μ H s) (h : Post K E μ H (.ok (.str d) s) (okD K Q)) : Q (.str d) H := Post.now h hs _ (.str d)
/-- a cell by its pointer -/
theorem cell_lst {K : PySem.W.Frag} {μ : Mu} {H : Hp} {s : S} {n : Nat} {a : Addr} {ds : List D} (hs : SimS K μ H s) (ha : μ.c[n]? = some a) (e : s[n]? = some (.lst ds)) : ∃ xs, H a = some (.lst xs) ∧ RepL K μ H xs ds := by
  obtain ⟨b, hb, hc⟩ := hs.cell n _ e
  rw [ha] at hb
  cases hb
  exact hc

theorem lcD_rep {K : PySem.W.Frag} {μ : Mu} {H : Hp} {s : S} {x : D} {v : V} {ds : List D} (hs : SimS K μ H s) (r : Rep K μ H v x) (e : lcD s x = some ds) : ∃ a xs, v = .ref a ∧ H a = some (.lst xs) ∧ RepL K μ H xs ds := by
  cases r with
  | @vls a xs es h l =>
    cases e
    exact ⟨a, xs, rfl, h.at_, l⟩
  | @ptr a n h =>
    unfold lcD at e
    simp only [] at e
    split at e
    · rename_i es hd
      cases e
      obtain ⟨xs, h1, l⟩ := cell_lst hs h hd
      exact ⟨a, xs, rfl, h1, l⟩
    · cases e
  | _ => cases e
theorem op_addD : OpR X (binaryOp .Add) (R2of X.K E addD) := by
  intro pins s σ H x y v u Q I rx ry h
  obtain ⟨μ, st, dx, dy, hs, hx, hy, post⟩ := h
  unfold addD at post
  split at post
  · rename_i i j
    cases hx
    cases hy
    rw [pure_run] at post
    exact op_add pins s σ H _ _ v u Q I rx ry ⟨i, j, rfl, rfl, post_int hs post⟩
  · rename_i i k
    cases hx
    cases hy
    rw [pure_run] at post
    exact op_add_ib pins s σ H _ _ v u Q I rx ry ⟨i, k, rfl, rfl, post_int hs post⟩
  · rename_i a b
    cases hx
    cases hy
    split at post
    · rename_i hl
      rw [pure_run] at post
      exact op_add_str pins s σ H _ _ v u Q I rx ry ⟨a, b, rfl, rfl, sz_ok hl, post_str hs post⟩
    · exact (show False from post).elim
  · rename_i ds es
    cases hx with
    | @tup a xs _ ha la =>
      cases hy with
      | @tup b ys _ hb lb =>
        split at post
        · rename_i hl
          rw [pure_run] at post
          have cat := la.append lb
          refine op_catA pins s σ H _ _ v u Q I rx ry ⟨a, b, xs, ys, rfl, rfl, ha, hb, by rw [la.length, lb.length]; exact sz_ok hl, fun e => ?_, fun _ e => ?_, fun _ _ => post_tup hs cat post⟩
          · subst e
            exact post_val hs post (.tup hb cat)
          · subst e
            rw [List.append_nil] at cat
            exact post_val hs post (.tup ha cat)
        · exact (show False from post).elim
  · unfold catD at post
    split at post
    · rename_i da db e1 e2
      obtain ⟨a, xs, rfl, h1, r1⟩ := lcD_rep hs hx e1
      obtain ⟨b, ys, rfl, h2, r2⟩ := lcD_rep hs hy e2
      split at post
      · rename_i hl
        exact op_cat pins s σ H _ _ v u Q I rx ry ⟨_, _, xs, ys, rfl, rfl, h1, h2, by rw [r1.length, r2.length]; exact sz_ok hl, post_vls hs (r1.append r2) post⟩
      · exact (show False from post).elim
    · exact (show False from post).elim
theorem op_subD : OpR X (binaryOp .Sub) (R2of X.K E subD) := by
  intro pins s σ H x y v u Q I rx ry h
  obtain ⟨μ, st, dx, dy, hs, hx, hy, post⟩ := h
  unfold subD at post
  split at post
  · rename_i i j
    cases hx
    cases hy
    rw [pure_run] at post
    exact op_sub pins s σ H _ _ v u Q I rx ry ⟨i, j, rfl, rfl, post_int hs post⟩
  · rename_i h1
    cases hx <;> cases hy <;> first | exact (show False from post).elim | exact (h1 _ _ rfl rfl).elim
theorem op_mulD : OpR X (binaryOp .Mult) (R2of X.K E mulD) := by
  intro pins s σ H x y v u Q I rx ry h
  obtain ⟨μ, st, dx, dy, hs, hx, hy, post⟩ := h
  unfold mulD at post
  split at post
  · rename_i i j
    cases hx
    cases hy
    split at post
    · rename_i hm
      rw [pure_run] at post
      rcases hm.ok with hm | hm | ⟨h1, h2⟩
      · exact op_mul pins s σ H _ _ v u Q I rx ry ⟨i, j, rfl, rfl, .inl (by omega), post_int hs post⟩
      · exact op_mul pins s σ H _ _ v u Q I rx ry ⟨i, j, rfl, rfl, .inr (by omega), post_int hs post⟩
      · exact op_mulW pins s σ H _ _ v u Q I rx ry ⟨i, j, rfl, rfl, wide_mul h1 h2 (by decide) (by decide) (by decide), post_int hs post⟩
    · exact (show False from post).elim
  · rename_i h1
    cases hx <;> cases hy <;> first | exact (show False from post).elim | exact (h1 _ _ rfl rfl).elim
theorem op_fdivD : OpR X (binaryOp .FloorDiv) (R2of X.K E fdivD) := by
  intro pins s σ H x y v u Q I rx ry h
  obtain ⟨μ, st, dx, dy, hs, hx, hy, post⟩ := h
  unfold fdivD at post
  split at post
  · rename_i i j
    cases hx
    cases hy
    split at post
    · rename_i hd
      split at post
      · exact (show False from post).elim
      · rename_i hj
        rw [pure_run] at post
        have q := post_int hs post
        have h9 : j.natAbs.log2 < 9000 := PySem.Flt.log2_lt_of (by decide) hd.ok
        have g : OpR X (binaryOp .FloorDiv) (rI (fun _ j => j ≠ 0 ∧ j.natAbs.log2 < 9000) fun i j => .int (i.fdiv j)) := opI fun _ _ _ _ _ _ _ hc q => floordiv_int hc.1 q (.inl (PyProof.noPylong_of_log2 hc.2))
        refine g pins s σ H _ _ v u Q I rx ry ⟨i, j, rfl, rfl, ⟨hj, h9⟩, ?_⟩
        by_cases hp : 0 < j
        · rw [if_pos hp] at q
          show Q (.int (i.fdiv j)) H
          rw [Int.fdiv_eq_ediv_of_nonneg i (by omega)]
          exact q
        · rw [if_neg hp] at q
          exact q
    · exact (show False from post).elim
  · rename_i h1
    cases hx <;> cases hy <;> first | exact (show False from post).elim | exact (h1 _ _ rfl rfl).elim
theorem op_modD : OpR X (binaryOp .Mod) (R2of X.K E modD) := by
  intro pins s σ H x y v u Q I rx ry h
  obtain ⟨μ, st, dx, dy, hs, hx, hy, post⟩ := h
  unfold modD at post
  split at post
  · rename_i i j
    cases hx
    cases hy
    split at post
    · exact (show False from post).elim
    · rename_i hj
      rw [pure_run] at post
      have q := post_int hs post
      refine op_modN pins s σ H _ _ v u Q I rx ry ⟨i, j, rfl, rfl, hj, ?_⟩
      by_cases hp : 0 < j
      · rw [if_pos hp] at q
        show Q (.int (i.fmod j)) H
        rw [Int.fmod_eq_emod_of_nonneg i (by omega)]
        exact q
      · rw [if_neg hp] at q
        exact q
  · rename_i h1
    cases hx <;> cases hy <;> first | exact (show False from post).elim | exact (h1 _ _ rfl rfl).elim
theorem op_powD : OpR X (binaryOp .Pow) (R2of X.K E powD) := by
  intro pins s σ H x y v u Q I rx ry h
  obtain ⟨μ, st, dx, dy, hs, hx, hy, post⟩ := h
  unfold powD at post
  split at post
  · rename_i i j
    cases hx
    cases hy
    split at post
    · rename_i hc
      have hc := hc.ok
      rw [pure_run] at post
      exact op_pow pins s σ H _ _ v u Q I rx ry ⟨i, j, rfl, rfl, ⟨hc.1.1, by omega, by omega⟩, post_int hs post⟩
    · exact (show False from post).elim
  · rename_i h1
    cases hx <;> cases hy <;> first | exact (show False from post).elim | exact (h1 _ _ rfl rfl).elim
theorem un_negD : UnR X (unaryOp .USub) (R1of X.K E negD) := by
  intro pins s σ H x v Q I rx h
  obtain ⟨μ, st, dx, hs, hx, post⟩ := h
  unfold negD at post
  split at post
  · rename_i i
    cases hx
    rw [pure_run] at post
    exact un_neg pins s σ H _ v Q I rx ⟨i, rfl, post_int hs post⟩
  · rename_i h1
    cases hx <;> first | exact (show False from post).elim | exact (h1 _ rfl).elim
end

/-! ### comparisons -/
def dInts : List D → Option (List Int)
  | [] => some []
  | .int i :: r => (dInts r).map (i :: ·)
  | _ :: _ => none
theorem dInts_rep {K : PySem.W.Frag} {μ : Mu} {H : Hp} : ∀ {ds : List D} {xs : List V} {ns : List Int}, dInts ds = some ns → RepL K μ H xs ds → xs = ns.map V.int
  | [], _, ns, e, .nil => by
    unfold dInts at e
    cases e
    rfl
  | .int i :: r, _, ns, e, .cons h t => by
    unfold dInts at e
    cases q : dInts r with
    | none => rw [q] at e; cases e
    | some ms =>
      rw [q] at e
      cases e
      cases h
      rw [dInts_rep q t]
      rfl
  | .non :: r, _, ns, e, _ => by unfold dInts at e; cases e
  | .bl _ :: r, _, ns, e, _ => by unfold dInts at e; cases e
  | .str _ :: r, _, ns, e, _ => by unfold dInts at e; cases e
  | .tup _ :: r, _, ns, e, _ => by unfold dInts at e; cases e
  | .flst _ :: r, _, ns, e, _ => by unfold dInts at e; cases e
  | .vls _ :: r, _, ns, e, _ => by unfold dInts at e; cases e
  | .ptr _ :: r, _, ns, e, _ => by unfold dInts at e; cases e
def ltD : D → D → M D
  | .int i, .int j => pure (.bl (decide (i < j)))
  | .str a, .str b => pure (.bl (decide (a.cps.toList < b.cps.toList)))
  | .tup a, .tup b => match dInts a, dInts b with
    | some ns, some ms => pure (.bl (HT.lexLt ns ms))
    | _, _ => stuck
  | _, _ => stuck
def leD : D → D → M D
  | .int i, .int j => pure (.bl (decide (i ≤ j)))
  | .str a, .str b => pure (.bl (!decide (b.cps.toList < a.cps.toList)))
  | _, _ => stuck
def gtD : D → D → M D
  | .int i, .int j => pure (.bl (decide (j < i)))
  | _, _ => stuck
def geD : D → D → M D
  | .int i, .int j => pure (.bl (decide (j ≤ i)))
  | _, _ => stuck
def isnD (x : D) : M D := match x with
  | .non => pure (.bl true)
  | _ => pure (.bl false)
def notnD (x : D) : M D := match x with
  | .non => pure (.bl false)
  | _ => pure (.bl true)
def isbD : D → D → M D
  | .bl a, .bl b => pure (.bl (decide (a = b)))
  | _, _ => stuck
def notbD : D → D → M D
  | .bl a, .bl b => pure (.bl (!decide (a = b)))
  | _, _ => stuck
def mapO {α β : Type} (f : α → Option β) : List α → Option (List β)
  | [] => some []
  | a :: r => match f a, mapO f r with
    | some b, some bs => some (b :: bs)
    | _, _ => none
def toPy (s : S) : Nat → D → Option PyData
  | 0, _ => none
  | k + 1, d => match d with
    | .non => some .none
    | .bl b => some (.bool b)
    | .int i => some (.int i)
    | .str x => some (.str x)
    | .tup ds => (mapO (toPy s k) ds).map .tuple
    | .flst ds => (mapO (toPy s k) ds).map .list
    | .vls ds => (mapO (toPy s k) ds).map .list
    | .ptr n => match s[n]? with
      | some (.lst ds) => (mapO (toPy s k) ds).map .list
      | _ => none
theorem toPy_dpL {K : PySem.W.Frag} {μ : Mu} {H : Hp} {s : S} {k : Nat} (ih : ∀ (d : D) (v : V) (p : PyData), toPy s k d = some p → Rep K μ H v d → Dp K H v p) :
    ∀ (ds : List D) (vs : List V) (ps : List PyData), mapO (toPy s k) ds = some ps → RepL K μ H vs ds → DpAll K H vs ps
  | [], _, ps, e, .nil => by
    unfold mapO at e
    cases e
    exact .nil
  | d :: ds, _, ps, e, .cons h t => by
    unfold mapO at e
    split at e
    · rename_i b bs e1 e2
      cases e
      exact .cons (ih d _ b e1 h) (toPy_dpL ih ds _ bs e2 t)
    · cases e
theorem toPy_dp {K : PySem.W.Frag} {μ : Mu} {H : Hp} {s : S} (hs : SimS K μ H s) : ∀ (k : Nat) (d : D) (v : V) (p : PyData), toPy s k d = some p → Rep K μ H v d → Dp K H v p
  | 0, _, _, _, e, _ => by cases e
  | k + 1, d, v, p, e, r => by
    unfold toPy at e
    cases r with
    | non => cases e; exact .non
    | bl b => cases e; exact .bl b
    | int i => cases e; exact .int i
    | str x => cases e; exact .str x
    | @tup a xs ds ha la =>
      simp only [] at e
      cases q : mapO (toPy s k) ds with
      | none => rw [q] at e; cases e
      | some ps =>
        rw [q] at e
        cases e
        exact .tup ha (toPy_dpL (toPy_dp hs k) ds xs ps q la)
    | @flst a xs ds ha la =>
      simp only [] at e
      cases q : mapO (toPy s k) ds with
      | none => rw [q] at e; cases e
      | some ps =>
        rw [q] at e
        cases e
        exact .lst ha.sqL (toPy_dpL (toPy_dp hs k) ds xs ps q la)
    | @vls a xs ds ha la =>
      simp only [] at e
      cases q : mapO (toPy s k) ds with
      | none => rw [q] at e; cases e
      | some ps =>
        rw [q] at e
        cases e
        exact .lst ha.sqL (toPy_dpL (toPy_dp hs k) ds xs ps q la)
    | @ptr a n ha =>
      simp only [] at e
      split at e
      · rename_i ds hd
        obtain ⟨xs, h1, la⟩ := cell_lst hs ha hd
        cases q : mapO (toPy s k) ds with
        | none => rw [q] at e; cases e
        | some ps =>
          rw [q] at e
          cases e
          exact .lst (SqL.of h1) (toPy_dpL (toPy_dp hs k) ds xs ps q la)
      · cases e
/-- == by data -/
def eqD (x y : D) : M D := fun s => match x, y with
  | .int i, .int j => .ok (.bl (decide (i = j))) s
  | .bl a, .bl b => .ok (.bl (decide (a = b))) s
  | .str a, .str b => .ok (.bl (decide (a = b))) s
  | .non, .non => .ok (.bl true) s
  | x, y => match toPy s 12 x, toPy s 12 y with
    | some p, some q => if (SeqAt.shaped p && SeqAt.shaped q) = true then .ok (.bl (PyData.eqv p q)) s else .stuck
    | _, _ => .stuck
def notD (m : D → D → M D) (x y : D) : M D := do
  match ← m x y with
  | .bl b => pure (.bl (!b))
  | _ => stuck
def neD : D → D → M D := notD eqD
section
variable {X : Cx} {E : XK}
theorem op_ltD (hu : X.A.units < cLine) : OpR X (compareOp .Lt) (R2of X.K E ltD) := by
  intro pins s σ H x y v u Q I rx ry h
  obtain ⟨μ, st, dx, dy, hs, hx, hy, post⟩ := h
  unfold ltD at post
  split at post
  · cases hx
    cases hy
    rw [pure_run] at post
    exact op_lt pins s σ H _ _ v u Q I rx ry ⟨_, _, rfl, rfl, post_bl hs post⟩
  · cases hx
    cases hy
    rw [pure_run] at post
    exact op_lt_str pins s σ H _ _ v u Q I rx ry ⟨_, _, rfl, rfl, post_bl hs post⟩
  · rename_i a b
    cases hx with
    | @tup p xs _ ha la =>
      cases hy with
      | @tup q ys _ hb lb =>
        cases e1 : dInts a with
        | none => rw [e1] at post; exact (show False from post).elim
        | some ns =>
          cases e2 : dInts b with
          | none => rw [e1, e2] at post; exact (show False from post).elim
          | some ms =>
            rw [e1, e2] at post
            rw [dInts_rep e1 la] at ha
            rw [dInts_rep e2 lb] at hb
            exact op_ltT hu pins s σ H _ _ v u Q I rx ry ⟨p, q, ns, ms, rfl, rfl, ha, hb, post_bl hs post⟩
  · rename_i h1 h2 h3
    cases hx <;> cases hy <;> first | exact (show False from post).elim | exact (h1 _ _ rfl rfl).elim | exact (h2 _ _ rfl rfl).elim | exact (h3 _ _ rfl rfl).elim
theorem op_leD : OpR X (compareOp .LtE) (R2of X.K E leD) := by
  intro pins s σ H x y v u Q I rx ry h
  obtain ⟨μ, st, dx, dy, hs, hx, hy, post⟩ := h
  unfold leD at post
  split at post
  · cases hx
    cases hy
    rw [pure_run] at post
    exact op_le pins s σ H _ _ v u Q I rx ry ⟨_, _, rfl, rfl, post_bl hs post⟩
  · cases hx
    cases hy
    rw [pure_run] at post
    exact op_le_str pins s σ H _ _ v u Q I rx ry ⟨_, _, rfl, rfl, post_bl hs post⟩
  · rename_i h1 h2
    cases hx <;> cases hy <;> first | exact (show False from post).elim | exact (h1 _ _ rfl rfl).elim | exact (h2 _ _ rfl rfl).elim
theorem op_gtD : OpR X (compareOp .Gt) (R2of X.K E gtD) := by
  intro pins s σ H x y v u Q I rx ry h
  obtain ⟨μ, st, dx, dy, hs, hx, hy, post⟩ := h
  unfold gtD at post
  split at post
  · cases hx
    cases hy
    rw [pure_run] at post
    exact op_gt pins s σ H _ _ v u Q I rx ry ⟨_, _, rfl, rfl, post_bl hs post⟩
  · rename_i h1
    cases hx <;> cases hy <;> first | exact (show False from post).elim | exact (h1 _ _ rfl rfl).elim
theorem op_geD : OpR X (compareOp .GtE) (R2of X.K E geD) := by
  intro pins s σ H x y v u Q I rx ry h
  obtain ⟨μ, st, dx, dy, hs, hx, hy, post⟩ := h
  unfold geD at post
  split at post
  · cases hx
    cases hy
    rw [pure_run] at post
    exact op_ge pins s σ H _ _ v u Q I rx ry ⟨_, _, rfl, rfl, post_bl hs post⟩
  · rename_i h1
    cases hx <;> cases hy <;> first | exact (show False from post).elim | exact (h1 _ _ rfl rfl).elim
theorem op_isbD : OpR X (compareOp .Is) (R2of X.K E isbD) := by
  intro pins s σ H x y v u Q I rx ry h
  obtain ⟨μ, st, dx, dy, hs, hx, hy, post⟩ := h
  unfold isbD at post
  split at post
  · cases hx
    cases hy
    rw [pure_run] at post
    exact op_isBl pins s σ H _ _ v u Q I rx ry ⟨_, _, rfl, rfl, post_bl hs post⟩
  · rename_i h1
    cases hx <;> cases hy <;> first | exact (show False from post).elim | exact (h1 _ _ rfl rfl).elim
theorem op_notbD : OpR X (compareOp .IsNot) (R2of X.K E notbD) := by
  intro pins s σ H x y v u Q I rx ry h
  obtain ⟨μ, st, dx, dy, hs, hx, hy, post⟩ := h
  unfold notbD at post
  split at post
  · cases hx
    cases hy
    rw [pure_run] at post
    exact op_notBl pins s σ H _ _ v u Q I rx ry ⟨_, _, rfl, rfl, post_bl hs post⟩
  · rename_i h1
    cases hx <;> cases hy <;> first | exact (show False from post).elim | exact (h1 _ _ rfl rfl).elim
/-- what == gives, as a fact of both sides -/
theorem eqD_core {K : PySem.W.Frag} {μ : Mu} {H : Hp} {st : S} {dx dy : D} {x y : V} {r : D} {st' : S} (hs : SimS K μ H st) (hx : Rep K μ H x dx) (hy : Rep K μ H y dy) (e : eqD dx dy st = .ok r st') :
    st' = st ∧ ∃ b, r = .bl b ∧ ((scal x y = true ∧ b = decide (x = y)) ∨ ∃ p q, Dp K H x p ∧ Dp K H y q ∧ SeqAt.shaped p = true ∧ SeqAt.shaped q = true ∧ b = PyData.eqv p q) := by
  unfold eqD at e
  split at e
  · cases hx; cases hy; cases e
    exact ⟨rfl, _, rfl, .inl ⟨rfl, by simp⟩⟩
  · cases hx; cases hy; cases e
    exact ⟨rfl, _, rfl, .inl ⟨rfl, by simp⟩⟩
  · cases hx; cases hy; cases e
    exact ⟨rfl, _, rfl, .inl ⟨rfl, by simp⟩⟩
  · cases hx; cases hy; cases e
    exact ⟨rfl, _, rfl, .inl ⟨rfl, by simp⟩⟩
  · split at e
    · rename_i p q e1 e2
      split at e
      · rename_i hsh
        rw [Bool.and_eq_true] at hsh
        cases e
        exact ⟨rfl, _, rfl, .inr ⟨p, q, toPy_dp hs 12 _ _ p e1 hx, toPy_dp hs 12 _ _ q e2 hy, hsh.1, hsh.2, rfl⟩⟩
      · cases e
    · cases e
theorem eqD_noexc {dx dy : D} {st st' : S} {c : Str} (e : eqD dx dy st = .exc c st') : False := by
  unfold eqD at e
  repeat (first | cases e | split at e)
theorem op_eqDD (hu : X.A.units + 64 < cLine) : OpR X (compareOp .Eq) (R2of X.K E eqD) := by
  intro pins s σ H x y v u Q I rx ry h
  obtain ⟨μ, st, dx, dy, hs, hx, hy, post⟩ := h
  cases e : eqD dx dy st with
  | stuck => rw [e] at post; exact (show False from post).elim
  | exc c s' => exact (eqD_noexc e).elim
  | ok r s' =>
    rw [e] at post
    obtain ⟨rfl, b, rfl, ⟨h1, rfl⟩ | ⟨p, q, d1, d2, s1, s2, rfl⟩⟩ := eqD_core hs hx hy e
    · exact op_eq pins s σ H _ _ v u Q I rx ry ⟨h1, post_bl hs post⟩
    · exact op_eqD hu pins s σ H _ _ v u Q I rx ry ⟨p, q, d1, d2, s1, s2, post_bl hs post⟩
theorem op_neDD (hu : X.A.units + 64 < cLine) : OpR X (compareOp .NotEq) (R2of X.K E neD) := by
  intro pins s σ H x y v u Q I rx ry h
  obtain ⟨μ, st, dx, dy, hs, hx, hy, post⟩ := h
  unfold neD notD at post
  rw [bind_run] at post
  cases e : eqD dx dy st with
  | stuck => rw [e] at post; exact (show False from post).elim
  | exc c s' => exact (eqD_noexc e).elim
  | ok r s' =>
    rw [e] at post
    obtain ⟨rfl, b, rfl, ⟨h1, rfl⟩ | ⟨p, q, d1, d2, s1, s2, rfl⟩⟩ := eqD_core hs hx hy e
    · exact op_ne pins s σ H _ _ v u Q I rx ry ⟨h1, post_bl hs post⟩
    · exact op_neD hu pins s σ H _ _ v u Q I rx ry ⟨p, q, d1, d2, s1, s2, post_bl hs post⟩
end
end PL

/-! PL3: expressions. -/
namespace PL
open PySem PySem.Spec PyProof.Rows L2

/-! ### combinators -/
def varM (i : Nat) (env : Env) : M D := match env[i]? with
  | some (some d) => pure d
  | _ => stuck
def cM (d : D) (_ : Env) : M D := pure d
def unM (f : D → M D) (ma : Env → M D) (env : Env) : M D := ma env >>= f
def binM (f : D → D → M D) (ma mb : Env → M D) (env : Env) : M D := ma env >>= fun x => mb env >>= fun y => f x y
def asB (m : M D) : M Bool := m >>= fun d => match d with
  | .bl b => pure b
  | _ => stuck
def tB (m : Env → M D) (env : Env) : M Bool := asB (m env)
def vB (m : Env → M Bool) (env : Env) : M D := m env >>= fun b => pure (.bl b)
def chainM (f g : D → D → M D) (ma mb mc : Env → M D) (env : Env) : M D :=
  ma env >>= fun x => mb env >>= fun y => f x y >>= fun r => match r with
    | .bl true => mc env >>= fun z => g y z
    | .bl false => pure (.bl false)
    | _ => stuck
def truD : D → M Bool
  | .non => pure false
  | .bl b => pure b
  | .int i => pure (i != 0)
  | .str x => if x.length ≤ 100000 then pure ((x.length : Int) != 0) else stuck
  | .tup ds => pure (!ds.isEmpty)
  | .flst ds => pure (!ds.isEmpty)
  | .vls ds => pure (!ds.isEmpty)
  | .ptr n => fun s => match s[n]? with
    | some (.lst ds) => .ok (!ds.isEmpty) s
    | some (.dK kvs) => .ok (!kvs.isEmpty) s
    | _ => .stuck
def truM (m : Env → M D) (env : Env) : M Bool := m env >>= truD
def andM (ma mb : Env → M D) (env : Env) : M D := ma env >>= fun x => truD x >>= fun k => if k then mb env else pure x
def orM (ma mb : Env → M D) (env : Env) : M D := ma env >>= fun x => truD x >>= fun k => if k then pure x else mb env
def notM (ma : Env → M D) (env : Env) : M D := ma env >>= fun x => truD x >>= fun k => pure (.bl (!k))
def andT (ma mb : Env → M Bool) (env : Env) : M Bool := ma env >>= fun k => if k then mb env else pure false
def orT (ma mb : Env → M Bool) (env : Env) : M Bool := ma env >>= fun k => if k then pure true else mb env
def notT (ma : Env → M Bool) (env : Env) : M Bool := ma env >>= fun k => pure (!k)
def ifM (mc : Env → M Bool) (ma mb : Env → M D) (env : Env) : M D := mc env >>= fun k => if k then ma env else mb env
def nilA (_ : Env) : M (List D) := pure []
def consA (ma : Env → M D) (mr : Env → M (List D)) (env : Env) : M (List D) := ma env >>= fun d => mr env >>= fun ds => pure (d :: ds)
def tupM (ma : Env → M (List D)) (env : Env) : M D := ma env >>= fun ds => if ds.length ≤ 100000 then pure (.tup ds) else stuck
def lstM (ma : Env → M (List D)) (env : Env) : M D := ma env >>= fun ds => if ds.length ≤ 100000 then allocC (.lst ds) else stuck
def lstF (ma : Env → M (List D)) (env : Env) : M D := ma env >>= fun ds => if ds.length ≤ 100000 then pure (.vls ds) else stuck
def callM (f : List D → M D) (ma : Env → M (List D)) (env : Env) : M D := ma env >>= f

theorem lmap_fst {κ : Type} [DecidableEq κ] {K : PySem.W.Frag} {μ : Mu} {H : Hp} {k : κ} : ∀ {xs : List (κ × V)} {ds : List (κ × D)}, RepK K μ H xs ds → ∀ {d : D}, (ds.find? fun kv => decide (kv.1 = k)).map (·.2) = some d → ∃ v, valV xs k = some v ∧ Rep K μ H v d
  | [], [], _, d, e => by simp at e
  | [], q :: ds, h, d, e => by
    have := h.1
    simp at this
  | p :: xs, [], h, d, e => by
    have := h.1
    simp at this
  | p :: xs, q :: ds, ⟨h1, h2⟩, d, e => by
    rw [List.map_cons, List.map_cons] at h1
    have e1 : p.1 = q.1 := (List.cons.inj h1).1
    have e2 := (List.cons.inj h1).2
    rw [List.map_cons, List.map_cons] at h2
    cases h2 with
    | cons r t =>
      by_cases hk : q.1 = k
      · rw [List.find?_cons] at e
        simp only [hk, decide_true, Option.map_some, Option.some.injEq] at e
        subst e
        exact ⟨p.2, valV_pos (e1.trans hk), r⟩
      · rw [List.find?_cons] at e
        simp only [hk, decide_false] at e
        obtain ⟨v, hv, hr⟩ := lmap_fst ⟨e2, t⟩ e
        exact ⟨v, by rw [valV_neg (by rw [e1]; exact hk)]; exact hv, hr⟩
theorem lmap_none {κ : Type} [DecidableEq κ] {K : PySem.W.Frag} {μ : Mu} {H : Hp} {k : κ} : ∀ {xs : List (κ × V)} {ds : List (κ × D)}, RepK K μ H xs ds → (ds.find? fun kv => decide (kv.1 = k)).map (·.2) = none → valV xs k = none
  | [], [], _, e => rfl
  | [], q :: ds, h, e => by
    have := h.1
    simp at this
  | p :: xs, [], h, e => by
    have := h.1
    simp at this
  | p :: xs, q :: ds, ⟨h1, h2⟩, e => by
    rw [List.map_cons, List.map_cons] at h1
    have e1 : p.1 = q.1 := (List.cons.inj h1).1
    have e2 := (List.cons.inj h1).2
    rw [List.map_cons, List.map_cons] at h2
    cases h2 with
    | cons r t =>
      by_cases hk : q.1 = k
      · rw [List.find?_cons] at e
        simp [hk] at e
      · rw [List.find?_cons] at e
        simp only [hk, decide_false] at e
        rw [valV_neg (by rw [e1]; exact hk)]
        exact lmap_none ⟨e2, t⟩ e
def valD {κ : Type} [DecidableEq κ] (kvs : List (κ × D)) (k : κ) : Option D := (kvs.find? fun kv => decide (kv.1 = k)).map (·.2)
def dKey : D → Option Key
  | .int i => some (.inl i)
  | .str x => some (.inr x)
  | _ => none
theorem dKey_rep {K : PySem.W.Frag} {μ : Mu} {H : Hp} {d : D} {v : V} {k : Key} (e : dKey d = some k) (r : Rep K μ H v d) : v = kV k := by
  cases r <;> first | (cases e; rfl) | cases e
theorem cell_rdK {K : PySem.W.Frag} {μ : Mu} {H : Hp} {s : S} {n : Nat} {a : Addr} {ds : List (Key × D)} (hs : SimS K μ H s) (ha : μ.c[n]? = some a) (e : s[n]? = some (.dK ds) ∨ s[n]? = some (.fK ds)) : ∃ xs, Rd H a (.dK xs) ∧ RepK K μ H xs ds := by
  rcases e with e | e
  · obtain ⟨b, hb, hc⟩ := hs.cell n _ e
    rw [ha] at hb
    cases hb
    obtain ⟨xs, h1, h2⟩ := hc
    exact ⟨xs, .inl h1, h2⟩
  · obtain ⟨b, hb, hc⟩ := hs.cell n _ e
    rw [ha] at hb
    cases hb
    obtain ⟨o, xs, h1, h2⟩ := hc
    exact ⟨xs, .inr ⟨o, h1⟩, h2⟩
theorem cell_dK {K : PySem.W.Frag} {μ : Mu} {H : Hp} {s : S} {n : Nat} {a : Addr} {ds : List (Key × D)} (hs : SimS K μ H s) (ha : μ.c[n]? = some a) (e : s[n]? = some (.dK ds)) : ∃ xs, H a = some (.dK xs) ∧ RepK K μ H xs ds := by
  obtain ⟨b, hb, hc⟩ := hs.cell n _ e
  rw [ha] at hb
  cases hb
  exact hc
def ixS (ds : List D) (y : D) : M D := match y with
  | .int i => (match atI ds i with
    | some d => pure d
    | none => stuck)
  | _ => stuck
def ixK (kvs : List (Key × D)) (y : D) : M D := match dKey y with
  | some k => (match valD kvs k with
    | some d => pure d
    | none => stuck)
  | none => stuck
/-- x[y] -/
def ixD (x y : D) : M D := match x with
  | .tup ds => ixS ds y
  | .flst ds => ixS ds y
  | .vls ds => ixS ds y
  | .str z => (match y with
    | .int i => if z.length ≤ 100000 then (match atI z.cps.toList i with
      | some c => pure (.str ⟨#[c]⟩)
      | none => stuck) else stuck
    | _ => stuck)
  | .ptr n => fun s => match s[n]? with
    | some (.lst ds) => ixS ds y s
    | some (.dK kvs) => ixK kvs y s
    | some (.fK kvs) => ixK kvs y s
    | _ => .stuck
  | _ => stuck
theorem atI_rep {K : PySem.W.Frag} {μ : Mu} {H : Hp} {xs : List V} {ds : List D} {i : Int} {d : D} (r : RepL K μ H xs ds) (e : atI ds i = some d) : ∃ v, atI xs i = some v ∧ Rep K μ H v d := by
  unfold atI at *
  rw [r.length]
  cases q : ixN ds.length i with
  | none => rw [q] at e; cases e
  | some j =>
    rw [q] at e
    exact r.get e
theorem PE.or {X : Cx} {e : Expr} {t t' : TE} (h : PE X e t) (h' : PE X e t') : PE X e (fun σ H Q => t σ H Q ∨ t' σ H Q) :=
  ⟨fun pins s σ H Q I q => q.elim (fun q => h.run pins s σ H Q I q) (fun q => h'.run pins s σ H Q I q)⟩
section
variable {X : Cx} {E : XK} {a b c e : Expr} {ma mb mc : Env → M D} {ta tb tc : Env → M Bool} {pos : Pos} {f g : D → D → M D}
/-- both sides of a two-place reading -/
theorem te_bin {r : R2} {K : PySem.W.Frag} (hr : ∀ x y H Q, R2of K E f x y H Q → r x y H Q) : ∀ σ H Q, TEof K E (binM f ma mb) σ H Q → tOp r (TEof K E ma) (TEof K E mb) σ H Q := by
  rintro σ H Q ⟨μ, env, s, hv, hs, post⟩
  refine ⟨μ, env, s, hv, hs, (Post.bind post).mono fun x s1 μ1 H1 g1 hs1 p1 v hx => ?_⟩
  refine ⟨μ1, env, s1, hv.grow g1, hs1, (Post.bind p1).mono fun y s2 μ2 H2 g2 hs2 p2 u hy => ?_⟩
  exact hr _ _ _ _ ⟨μ2, s2, x, y, hs2, Rep.grow g2 x v hx, hy, p2⟩
theorem te_un {r : V → Hp → VK → Prop} {K : PySem.W.Frag} {h : D → M D} (hr : ∀ x H Q, R1of K E h x H Q → r x H Q) : ∀ σ H Q, TEof K E (unM h ma) σ H Q → tUn r (TEof K E ma) σ H Q := by
  rintro σ H Q ⟨μ, env, s, hv, hs, post⟩
  refine ⟨μ, env, s, hv, hs, (Post.bind post).mono fun x s1 μ1 H1 g1 hs1 p1 v hx => ?_⟩
  exact hr _ _ _ ⟨μ1, s1, x, hs1, hx, p1⟩

theorem se_var (i : Nat) {x : Str} (hN : X.N[i]? = some x := by rfl) (hv : Vis X.env.scope x := by first | exact Or.inl rfl | exact Or.inr (Or.inl rfl) | exact Or.inr (Or.inr rfl)) (hd : (x == ("__debug__" : Str)) = false := by decide)
    (hcd : (x == ("__classdict__" : Str)) = false := by decide) : SE X E (.Name x pos) (varM i) := PE.imp (pe_var hN hv hd hcd) (by
  rintro σ H Q ⟨μ, env, s, hv, hs, post⟩
  unfold varM at post
  cases e : env[i]? with
  | none => rw [e] at post; exact (show False from post).elim
  | some o =>
    cases o with
    | none => rw [e] at post; exact (show False from post).elim
    | some d =>
      rw [e] at post
      obtain ⟨v, h1, h2⟩ := hv.val i d e
      exact ⟨v, h1, post_val hs post h2⟩)
theorem te_c {K : PySem.W.Frag} {d : D} {v : V} (hr : ∀ μ H, Rep K μ H v d) : ∀ σ H Q, TEof K E (cM d) σ H Q → tC v σ H Q := by
  rintro σ H Q ⟨μ, env, s, hv, hs, post⟩
  exact post_val hs post (hr μ H)
theorem se_int {i j} : SE X E (.Constant (.int i) j pos) (cM (.int i)) := PE.imp pe_int (te_c fun _ _ => .int i)
theorem se_bl {k j} : SE X E (.Constant (.bool k) j pos) (cM (.bl k)) := PE.imp pe_bl (te_c fun _ _ => .bl k)
theorem se_non {j} : SE X E (.Constant .none j pos) (cM .non) := PE.imp pe_non (te_c fun _ _ => .non)
theorem se_str {x j} : SE X E (.Constant (.str x) j pos) (cM (.str x)) := PE.imp pe_str (te_c fun _ _ => .str x)
theorem se_glob {x : Str} {d : D} {v : V} {u : Value} (hg : Gl X x) (hm : X.mg x = some u) (r : RelV v u) (hr : ∀ μ H, Rep X.K μ H v d) (hd : (x == ("__debug__" : Str)) = false := by decide) : SE X E (.Name x pos) (cM d) := PE.imp (pe_glob hg hm r hd) (te_c hr)

theorem se_bin {op : Operator} (ho : OpR X (binaryOp op) (R2of X.K E f)) (ha : SE X E a ma) (hb : SE X E b mb) : SE X E (.BinOp a op b pos) (binM f ma mb) := PE.imp (pe_op ho ha hb) (te_bin fun _ _ _ _ h => h)
theorem se_add (ha : SE X E a ma) (hb : SE X E b mb) : SE X E (.BinOp a .Add b pos) (binM addD ma mb) := se_bin op_addD ha hb
theorem se_sub (ha : SE X E a ma) (hb : SE X E b mb) : SE X E (.BinOp a .Sub b pos) (binM subD ma mb) := se_bin op_subD ha hb
theorem se_mul (ha : SE X E a ma) (hb : SE X E b mb) : SE X E (.BinOp a .Mult b pos) (binM mulD ma mb) := se_bin op_mulD ha hb
theorem se_fdiv (ha : SE X E a ma) (hb : SE X E b mb) : SE X E (.BinOp a .FloorDiv b pos) (binM fdivD ma mb) := se_bin op_fdivD ha hb
theorem se_mod (ha : SE X E a ma) (hb : SE X E b mb) : SE X E (.BinOp a .Mod b pos) (binM modD ma mb) := se_bin op_modD ha hb
theorem se_pow (ha : SE X E a ma) (hb : SE X E b mb) : SE X E (.BinOp a .Pow b pos) (binM powD ma mb) := se_bin op_powD ha hb
theorem se_neg (ha : SE X E a ma) : SE X E (.UnaryOp .USub a pos) (unM negD ma) := PE.imp (pe_un un_negD ha) (te_un fun _ _ _ h => h)
theorem se_cmp {op : CmpOp} (ho : OpR X (compareOp op) (R2of X.K E f)) (ha : SE X E a ma) (hb : SE X E b mb) (hm : behindInMarks op b = false) : SE X E (.Compare a [op] [b] pos) (binM f ma mb) := PE.imp (pe_cmpR ho ha hb hm) (te_bin fun _ _ _ _ h => h)
/-- a bool as a test -/
theorem tt_of {t : TE} {K : PySem.W.Frag} {m : Env → M D} (ht : ∀ σ H Q, TEof K E m σ H Q → t σ H Q) : ∀ σ H Q, TTof K E (tB m) σ H Q → tTest t σ H Q := by
  rintro σ H Q ⟨μ, env, s, hv, hs, post⟩
  refine ht _ _ _ ⟨μ, env, s, hv, hs, (Post.bind post).mono fun x s1 μ1 H1 g1 hs1 p1 v hx => ?_⟩
  cases hx with
  | bl k => exact ⟨k, rfl, Post.now p1 hs1⟩
  | _ => exact (show False from p1).elim
theorem st_cmp {op : CmpOp} (ho : OpR X (compareOp op) (R2of X.K E f)) (ha : SE X E a ma) (hb : SE X E b mb) (hm : behindInMarks op b = false) : ST X E (.Compare a [op] [b] pos) (tB (binM f ma mb)) := PT.imp (pt_cmpR ho ha hb hm) (tt_of (te_bin fun _ _ _ _ h => h))
theorem te_chain {K : PySem.W.Frag} : ∀ σ H Q, TEof K E (chainM f g ma mb mc) σ H Q → tChain (R2of K E f) (R2of K E g) (TEof K E ma) (TEof K E mb) (TEof K E mc) σ H Q := by
  rintro σ H Q ⟨μ, env, s, hv, hs, post⟩
  refine ⟨μ, env, s, hv, hs, (Post.bind post).mono fun x s1 μ1 H1 g1 hs1 p1 v hx => ?_⟩
  refine ⟨μ1, env, s1, hv.grow g1, hs1, (Post.bind p1).mono fun y s2 μ2 H2 g2 hs2 p2 u hy => ?_⟩
  refine ⟨μ2, s2, x, y, hs2, Rep.grow g2 x v hx, hy, (Post.bind p2).mono fun r s3 μ3 H3 g3 hs3 p3 w hr => ?_⟩
  cases hr with
  | bl k =>
    refine ⟨k, rfl, ?_⟩
    cases k with
    | false => exact post_bl hs3 p3
    | true =>
      refine ⟨μ3, env, s3, (hv.grow (g1.trans (g2.trans g3))), hs3, (Post.bind p3).mono fun z s4 μ4 H4 g4 hs4 p4 w' hz => ?_⟩
      exact ⟨μ4, s4, y, z, hs4, Rep.grow (g3.trans g4) y u hy, hz, p4⟩
  | _ => exact (show False from p3).elim
theorem se_chain {op op' : CmpOp} (ho : OpR X (compareOp op) (R2of X.K E f)) (ho' : OpR X (compareOp op') (R2of X.K E g)) (ha : SE X E a ma) (hb : SE X E b mb) (hc : SE X E c mc)
    (hm : lastMarks [op, op'] [b, c] = false := by with_unfolding_all rfl) : SE X E (.Compare a [op, op'] [b, c] pos) (chainM f g ma mb mc) := PE.imp (pe_chain ho ho' ha hb hc hm) te_chain
theorem st_chain {op op' : CmpOp} (ho : OpR X (compareOp op) (R2of X.K E f)) (ho' : OpR X (compareOp op') (R2of X.K E g)) (ha : SE X E a ma) (hb : SE X E b mb) (hc : SE X E c mc)
    (hm : lastMarks [op, op'] [b, c] = false := by with_unfolding_all rfl) : ST X E (.Compare a [op, op'] [b, c] pos) (tB (chainM f g ma mb mc)) := PT.imp (pt_chain ho ho' ha hb hc hm) (tt_of te_chain)
theorem te_isN {K : PySem.W.Frag} : ∀ σ H Q, TEof K E (unM isnD ma) σ H Q → tIsN (TEof K E ma) σ H Q := by
  rintro σ H Q ⟨μ, env, s, hv, hs, post⟩
  refine ⟨μ, env, s, hv, hs, (Post.bind post).mono fun x s1 μ1 H1 g1 hs1 p1 v hx => ?_⟩
  cases hx <;> exact post_bl hs1 p1
theorem te_notN {K : PySem.W.Frag} : ∀ σ H Q, TEof K E (unM notnD ma) σ H Q → tNotN (TEof K E ma) σ H Q := by
  rintro σ H Q ⟨μ, env, s, hv, hs, post⟩
  refine ⟨μ, env, s, hv, hs, (Post.bind post).mono fun x s1 μ1 H1 g1 hs1 p1 v hx => ?_⟩
  cases hx <;> exact post_bl hs1 p1
theorem se_isN {j pos'} (ha : SE X E a ma) : SE X E (.Compare a [.Is] [.Constant .none j pos'] pos) (unM isnD ma) := PE.imp (pe_cmp (pc_isN ha) rfl) te_isN
theorem se_notN {j pos'} (ha : SE X E a ma) : SE X E (.Compare a [.IsNot] [.Constant .none j pos'] pos) (unM notnD ma) := PE.imp (pe_cmp (pc_notN ha) rfl) te_notN
theorem tB_of {t : TE} {K : PySem.W.Frag} {m : Env → M D} (ht : ∀ σ H Q, TEof K E m σ H Q → t σ H Q) : ∀ σ H Q, TTof K E (tB m) σ H Q → L2.tB t σ H Q := by
  rintro σ H Q ⟨μ, env, s, hv, hs, post⟩
  refine ht _ _ _ ⟨μ, env, s, hv, hs, (Post.bind post).mono fun x s1 μ1 H1 g1 hs1 p1 v hx => ?_⟩
  cases hx with
  | bl k => exact ⟨k, rfl, Post.now p1 hs1⟩
  | _ => exact (show False from p1).elim
theorem st_isN {j pos'} (ha : SE X E a ma) : ST X E (.Compare a [.Is] [.Constant .none j pos'] pos) (tB (unM isnD ma)) := PT.imp (pt_cmp (pc_isN ha) rfl) (tB_of te_isN)
theorem st_notN {j pos'} (ha : SE X E a ma) : ST X E (.Compare a [.IsNot] [.Constant .none j pos'] pos) (tB (unM notnD ma)) := PT.imp (pt_cmp (pc_notN ha) rfl) (tB_of te_notN)

/-! ### truth -/
theorem tru_of {K : PySem.W.Frag} {μ : Mu} {H : Hp} {s : S} {d : D} {v : V} {q : Bool → S → Mu → Hp → Prop} (hs : SimS K μ H s) (r : Rep K μ H v d) (post : Post K E μ H (truD d s) q) : ∃ k, TruV K v H k ∧ q k s μ H := by
  unfold truD at post
  cases r with
  | non => exact ⟨false, rfl, Post.now post hs⟩
  | bl b => exact ⟨b, rfl, Post.now post hs⟩
  | int i => exact ⟨_, rfl, Post.now post hs⟩
  | str x =>
    simp only [] at post
    split at post
    · rename_i hl
      exact ⟨_, ⟨sz_ok hl, rfl⟩, Post.now post hs⟩
    · exact (show False from post).elim
  | @tup p xs ds ha la =>
    refine ⟨_, .inr (.inl ⟨xs, ha, rfl⟩), ?_⟩
    have e : ds.isEmpty = xs.isEmpty := by cases la <;> rfl
    rw [← e]
    exact Post.now post hs
  | @flst p xs ds ha la =>
    refine ⟨_, .inl ⟨xs, ha.sqL, rfl⟩, ?_⟩
    have e : ds.isEmpty = xs.isEmpty := by cases la <;> rfl
    rw [← e]
    exact Post.now post hs
  | @vls p xs ds ha la =>
    refine ⟨_, .inl ⟨xs, ha.sqL, rfl⟩, ?_⟩
    have e : ds.isEmpty = xs.isEmpty := by cases la <;> rfl
    rw [← e]
    exact Post.now post hs
  | @ptr p n ha =>
    simp only [] at post
    split at post
    · rename_i ds hd
      obtain ⟨xs, h1, la⟩ := cell_lst hs ha hd
      refine ⟨_, .inl ⟨xs, SqL.of h1, rfl⟩, ?_⟩
      have e : ds.isEmpty = xs.isEmpty := by cases la <;> rfl
      rw [← e]
      exact Post.now post hs
    · rename_i kvs hd
      obtain ⟨xs, h1, h2⟩ := cell_dK hs ha hd
      refine ⟨_, .inr (.inr ⟨xs, h1, rfl⟩), ?_⟩
      have e : kvs.isEmpty = xs.isEmpty := by
        have := congrArg List.length h2.1
        rw [List.length_map, List.length_map] at this
        cases kvs <;> cases xs <;> simp at this <;> rfl
      rw [← e]
      exact Post.now post hs
    · exact (show False from post).elim
theorem st_truth (ha : SE X E a ma) (he : ∀ whole, isTrue a X.env whole = (do let v ← whole; standAt a.pos; holding [v] (truthy v)) := by intro _; rfl) : ST X E a (truM ma) := PT.imp (pt_truth ha he) (by
  rintro σ H Q ⟨μ, env, s, hv, hs, post⟩
  refine ⟨μ, env, s, hv, hs, (Post.bind post).mono fun x s1 μ1 H1 g1 hs1 p1 v hx => ?_⟩
  exact tru_of hs1 hx p1)
theorem se_one {op} (h : SE X E a ma) : SE X E (.BoolOp op [a] pos) ma := pe_one h
theorem se_and {rest : List Expr} (ha : SE X E a ma) (hb : SE X E (.BoolOp .And (b :: rest) pos) mb) : SE X E (.BoolOp .And (a :: b :: rest) pos) (andM ma mb) := PE.imp (pe_andT ha hb) (by
  rintro σ H Q ⟨μ, env, s, hv, hs, post⟩
  refine ⟨μ, env, s, hv, hs, (Post.bind post).mono fun x s1 μ1 H1 g1 hs1 p1 v hx => ?_⟩
  obtain ⟨k, h1, h2⟩ := tru_of hs1 hx (Post.bind p1)
  refine ⟨k, h1, ?_⟩
  cases k with
  | true => exact ⟨μ1, env, s1, hv.grow g1, hs1, h2⟩
  | false => exact post_val hs1 h2 hx)
theorem se_or {rest : List Expr} (ha : SE X E a ma) (hb : SE X E (.BoolOp .Or (b :: rest) pos) mb) : SE X E (.BoolOp .Or (a :: b :: rest) pos) (orM ma mb) := PE.imp (pe_orT ha hb) (by
  rintro σ H Q ⟨μ, env, s, hv, hs, post⟩
  refine ⟨μ, env, s, hv, hs, (Post.bind post).mono fun x s1 μ1 H1 g1 hs1 p1 v hx => ?_⟩
  obtain ⟨k, h1, h2⟩ := tru_of hs1 hx (Post.bind p1)
  refine ⟨k, h1, ?_⟩
  cases k with
  | true => exact post_val hs1 h2 hx
  | false => exact ⟨μ1, env, s1, hv.grow g1, hs1, h2⟩)
theorem se_not (ha : SE X E a ma) : SE X E (.UnaryOp .Not a pos) (notM ma) := PE.imp (pe_notT ha) (by
  rintro σ H Q ⟨μ, env, s, hv, hs, post⟩
  refine ⟨μ, env, s, hv, hs, (Post.bind post).mono fun x s1 μ1 H1 g1 hs1 p1 v hx => ?_⟩
  obtain ⟨k, h1, h2⟩ := tru_of hs1 hx (Post.bind p1)
  exact ⟨k, h1, post_bl hs1 h2⟩)
theorem sw_and1 (ha : ST X E a ta) : SW X E (.BoolOp .And [a] pos) ta := pw_and1 ha
theorem sw_or1 (ha : ST X E a ta) : SW X E (.BoolOp .Or [a] pos) ta := pw_or1 ha
theorem sw_and {rest : List Expr} (ha : ST X E a ta) (hb : SW X E (.BoolOp .And (b :: rest) pos) tb) : SW X E (.BoolOp .And (a :: b :: rest) pos) (andT ta tb) := PW.imp (pw_and ha hb) (by
  rintro σ H Q ⟨μ, env, s, hv, hs, post⟩
  refine ⟨μ, env, s, hv, hs, (Post.bind post).mono fun x s1 μ1 H1 g1 hs1 p1 => ?_⟩
  show if x = true then _ else _
  cases x with
  | true => exact ⟨μ1, env, s1, hv.grow g1, hs1, p1⟩
  | false => exact Post.now p1 hs1)
theorem sw_or {rest : List Expr} (ha : ST X E a ta) (hb : SW X E (.BoolOp .Or (b :: rest) pos) tb) : SW X E (.BoolOp .Or (a :: b :: rest) pos) (orT ta tb) := PW.imp (pw_or ha hb) (by
  rintro σ H Q ⟨μ, env, s, hv, hs, post⟩
  refine ⟨μ, env, s, hv, hs, (Post.bind post).mono fun x s1 μ1 H1 g1 hs1 p1 => ?_⟩
  show if x = true then _ else _
  cases x with
  | true => exact Post.now p1 hs1
  | false => exact ⟨μ1, env, s1, hv.grow g1, hs1, p1⟩)
theorem st_w (h : SW X E a ta) : ST X E a ta := PW.pt h
theorem st_not (ha : ST X E a ta) : ST X E (.UnaryOp .Not a pos) (notT ta) := PT.imp (pt_not ha) (by
  rintro σ H Q ⟨μ, env, s, hv, hs, post⟩
  refine ⟨μ, env, s, hv, hs, (Post.bind post).mono fun x s1 μ1 H1 g1 hs1 p1 => ?_⟩
  have q : okB Q (!x) s1 μ1 H1 := Post.now p1 hs1
  exact q)
theorem se_if (hc : ST X E c tc) (ha : SE X E a ma) (hb : SE X E b mb) : SE X E (.IfExp c a b pos) (ifM tc ma mb) := PE.imp (pe_ifExp hc ha hb) (by
  rintro σ H Q ⟨μ, env, s, hv, hs, post⟩
  refine ⟨μ, env, s, hv, hs, (Post.bind post).mono fun x s1 μ1 H1 g1 hs1 p1 => ?_⟩
  show if x = true then _ else _
  cases x with
  | true => exact ⟨μ1, env, s1, hv.grow g1, hs1, p1⟩
  | false => exact ⟨μ1, env, s1, hv.grow g1, hs1, p1⟩)

/-! ### arguments, displays -/
variable {es : List Expr} {mr : Env → M (List D)}
theorem sa_nil : SA X E [] nilA := PA.imp pa_nil (by
  rintro σ H Q ⟨μ, env, s, hv, hs, post⟩
  exact Post.now post hs [] .nil)
theorem sa_cons (ha : SE X E a ma) (hr : SA X E es mr) (hs : starEach (a :: es) X.env = (false, eval a X.env) :: starEach es X.env := by rfl) : SA X E (a :: es) (consA ma mr) := PA.imp (pa_cons ha hr hs) (by
  rintro σ H Q ⟨μ, env, s, hv, hs, post⟩
  refine ⟨μ, env, s, hv, hs, (Post.bind post).mono fun x s1 μ1 H1 g1 hs1 p1 v hx => ?_⟩
  refine ⟨μ1, env, s1, hv.grow g1, hs1, (Post.bind p1).mono fun ds s2 μ2 H2 g2 hs2 p2 vs hl => ?_⟩
  exact Post.now p2 hs2 (v :: vs) (.cons (Rep.grow g2 x v hx) hl))
theorem se_tup {k} (h : SA X E es mr) : SE X E (.Tuple es k pos) (tupM mr) := PE.imp (pe_tup h) (by
  rintro σ H Q ⟨μ, env, s, hv, hs, post⟩
  refine ⟨μ, env, s, hv, hs, (Post.bind post).mono fun ds s1 μ1 H1 g1 hs1 p1 vs hl => ?_⟩
  split at p1
  · rename_i hz
    exact ⟨by rw [hl.length]; exact sz_ok hz, post_tup hs1 hl p1⟩
  · exact (show False from p1).elim)
theorem se_lst (h : SA X E es mr) : SE X E (.List es pos) (lstM mr) := PE.imp (pe_lst h) (by
  rintro σ H Q ⟨μ, env, s, hv, hs, post⟩
  refine ⟨μ, env, s, hv, hs, (Post.bind post).mono fun ds s1 μ1 H1 g1 hs1 p1 vs hl => ?_⟩
  split at p1
  · rename_i hz
    exact ⟨by rw [hl.length]; exact sz_ok hz, post_alloc hs1 hl p1⟩
  · exact (show False from p1).elim)

theorem se_lstF (h : SA X E es mr) : SE X E (.List es pos) (lstF mr) := PE.imp (pe_lst h) (by
  rintro σ H Q ⟨μ, env, s, hv, hs, post⟩
  refine ⟨μ, env, s, hv, hs, (Post.bind post).mono fun ds s1 μ1 H1 g1 hs1 p1 vs hl => ?_⟩
  split at p1
  · rename_i hz
    exact ⟨by rw [hl.length]; exact sz_ok hz, post_vls hs1 hl p1⟩
  · exact (show False from p1).elim)

/-! ### subscripts -/
theorem se_ix (hu : X.A.units + 1 < cLine) (ha : SE X E a ma) (hb : SE X E b mb) (h : PlainIx b) : SE X E (.Subscript a b pos) (binM ixD ma mb) := PE.imp (PE.or (pe_ix ix_seq ha hb h) (pe_dget hu ha hb h)) (by
  rintro σ H Q ⟨μ, env, s, hv, hs, post⟩
  by_cases hd : ∃ n s1 y s2 kvs, ma env s = .ok (.ptr n) s1 ∧ mb env s1 = .ok y s2 ∧ (s2[n]? = some (Cell.dK kvs) ∨ s2[n]? = some (Cell.fK kvs))
  · right
    obtain ⟨n, s1, y, s2, kvs, e1, e2, e4⟩ := hd
    have e3 : binM ixD ma mb env s = ixD (.ptr n) y s2 := (bind_ok e1).trans (bind_ok e2)
    rw [e3] at post
    refine ⟨μ, env, s, hv, hs, ?_⟩
    rw [e1]
    intro μ1 H1 g1 hs1 v hx
    cases hx with
    | ptr hn =>
      refine ⟨μ1, env, s1, hv.grow g1, hs1, ?_⟩
      rw [e2]
      intro μ2 H2 g2 hs2 u hy
      obtain ⟨xs, h1, h2⟩ := cell_rdK hs2 (g2.at hn) e4
      have post : Post X.K E μ H (ixK kvs y s2) (okD X.K Q) := by
        rcases e4 with e4 | e4 <;> (unfold ixD at post; simp only [e4] at post; exact post)
      unfold ixK at post
      cases ek : dKey y with
      | none => rw [ek] at post; exact (show False from post).elim
      | some k =>
        rw [ek] at post
        cases ev : valD kvs k with
        | none => simp only [ev] at post; exact (show False from post).elim
        | some d =>
          simp only [ev] at post
          obtain ⟨w, hw, rw'⟩ := lmap_fst h2 ev
          have eu := dKey_rep ek hy
          subst eu
          exact ⟨_, w, rfl, by rw [← hw]; exact .inl ⟨_, _, h1, rfl, rfl⟩, post_val hs2 (Post.later (g1.trans g2) post) rw'⟩
  · left
    have e0 : binM ixD ma mb env s = (ma env >>= fun x => mb env >>= fun y => ixD x y) s := rfl
    rw [e0] at post
    refine ⟨μ, env, s, hv, hs, ?_⟩
    cases e1 : ma env s with
    | stuck => rw [bind_run, e1] at post; exact (show False from post).elim
    | exc c s1 => rw [bind_exc e1] at post; exact post
    | ok x s1 =>
      rw [bind_ok e1] at post
      intro μ1 H1 g1 hs1 v hx
      refine ⟨μ1, env, s1, hv.grow g1, hs1, ?_⟩
      cases e2 : mb env s1 with
      | stuck => rw [bind_run, e2] at post; exact (show False from post).elim
      | exc c s2 => rw [bind_exc e2] at post; exact Post.later g1 post
      | ok y s2 =>
        rw [bind_ok e2] at post
        intro μ2 H2 g2 hs2 u hy
        have post2 := Post.later (g1.trans g2) post
        have hx2 := Rep.grow g2 x v hx
        clear post
        have seq : ∀ {ds : List D} {xs : List V}, RepL X.K μ2 H2 xs ds → Post X.K E μ2 H2 (ixS ds y s2) (okD X.K Q) → ∃ i w, u = .int i ∧ atI xs i = some w ∧ Q w H2 := by
          intro ds xs hl p2
          unfold ixS at p2
          cases hy with
          | int i =>
            cases ei : atI ds i with
            | none => simp only [ei] at p2; exact (show False from p2).elim
            | some d =>
              simp only [ei] at p2
              obtain ⟨w, hw, rw'⟩ := atI_rep hl ei
              exact ⟨i, w, rfl, hw, post_val hs2 p2 rw'⟩
          | _ => exact (show False from p2).elim
        unfold ixD at post2
        cases hx2 with
        | tup ht hl =>
          obtain ⟨i, w, rfl, hw, q⟩ := seq hl post2
          exact .inr (.inl ⟨_, _, i, w, rfl, rfl, ht, hw, q⟩)
        | flst ht hl =>
          obtain ⟨i, w, rfl, hw, q⟩ := seq hl post2
          exact .inl ⟨_, _, i, w, rfl, rfl, ht.sqL, hw, q⟩
        | vls ht hl =>
          obtain ⟨i, w, rfl, hw, q⟩ := seq hl post2
          exact .inl ⟨_, _, i, w, rfl, rfl, ht.sqL, hw, q⟩
        | str z =>
          cases hy with
          | int i =>
            simp only [] at post2
            split at post2
            · rename_i hz
              cases ei : atI z.cps.toList i with
              | none => simp only [ei] at post2; exact (show False from post2).elim
              | some d =>
                simp only [ei] at post2
                exact .inr (.inr ⟨_, i, d, rfl, rfl, sz_ok hz, ei, post_val hs2 post2 (.str _)⟩)
            · exact (show False from post2).elim
          | _ => exact (show False from post2).elim
        | @ptr p n hn =>
          cases ec : s2[n]? with
          | none => simp only [ec] at post2; exact (show False from post2).elim
          | some cl =>
            simp only [ec] at post2
            cases cl with
            | lst ds =>
              obtain ⟨xs, h1, hl⟩ := cell_lst hs2 hn ec
              obtain ⟨i, w, rfl, hw, q⟩ := seq hl post2
              exact .inl ⟨_, _, i, w, rfl, rfl, SqL.of h1, hw, q⟩
            | dK kvs => exact (hd ⟨n, s1, y, s2, kvs, e1, e2, .inl ec⟩).elim
            | dT kvs => exact (show False from post2).elim
            | ins C fs => exact (show False from post2).elim
            | fK kvs => exact (hd ⟨n, s1, y, s2, kvs, e1, e2, .inr ec⟩).elim
        | _ => exact (show False from post2).elim)

/-! ### calls -/
theorem te_call {K : PySem.W.Frag} {r : List V → Hp → VK → Prop} {h : List D → M D} (hr : ∀ xs H Q, RLof K E h xs H Q → r xs H Q) : ∀ σ H Q, TEof K E (callM h mr) σ H Q → tCB r (TAof K E mr) σ H Q := by
  rintro σ H Q ⟨μ, env, s, hv, hs, post⟩
  refine ⟨μ, env, s, hv, hs, (Post.bind post).mono fun ds s1 μ1 H1 g1 hs1 p1 vs hl => ?_⟩
  exact hr _ _ _ ⟨μ1, s1, ds, hs1, hl, p1⟩
theorem se_callB {x : Str} {p : Pos} {id : String} {h : List D → M D} (hc : CallR X (.builtin id) (RLof X.K E h)) (hg : Gl X x) (hm : X.mg x = none) (hv : bootBuiltins x = some (.builtin id)) (ha : SA X E (e :: es) mr) (hn : x ≠ "__name__" := by decide) (hdb : (x == ("__debug__" : Str)) = false := by decide)
    (he : starEach (e :: es) X.env = (false, eval e X.env) :: starEach es X.env := by rfl) (hpl : (backTo pos (starEach es X.env)).any (·.1) = false := by rfl) :
    SE X E (.Call (.Name x p) (e :: es) [] pos) (callM h mr) := PE.imp (pe_callB hc hg hm hv ha hn hdb he hpl) (te_call fun _ _ _ h => h)
theorem se_callTy {x : Str} {p : Pos} {T : String} {h : List D → M D} (hc : CallR X (.type T) (RLof X.K E h)) (hg : Gl X x) (hm : X.mg x = none) (hv : bootBuiltins x = some (.type T)) (ha : SA X E (e :: es) mr) (hn : x ≠ "__name__" := by decide) (hdb : (x == ("__debug__" : Str)) = false := by decide)
    (he : starEach (e :: es) X.env = (false, eval e X.env) :: starEach es X.env := by rfl) (hpl : (backTo pos (starEach es X.env)).any (·.1) = false := by rfl) :
    SE X E (.Call (.Name x p) (e :: es) [] pos) (callM h mr) := PE.imp (pe_callTy hc hg hm hv ha hn hdb he hpl) (te_call fun _ _ _ h => h)
theorem se_callBfun {x : Str} {p : Pos} {id : String} {h : List D → M D} (hc : CallR X (.builtin id) (RLof X.K E h)) (hg : Gl X x) (hm : X.mg x = some (.builtin id)) (ha : SA X E (e :: es) mr) (hdb : (x == ("__debug__" : Str)) = false := by decide)
    (he : starEach (e :: es) X.env = (false, eval e X.env) :: starEach es X.env := by rfl) (hpl : (backTo pos (starEach es X.env)).any (·.1) = false := by rfl) :
    SE X E (.Call (.Name x p) (e :: es) [] pos) (callM h mr) := PE.imp (pe_callBfun hc hg hm ha hdb he hpl) (te_call fun _ _ _ h => h)
/-- a def's promise by a mirror -/
def spM (K : PySem.W.Frag) (n : Nat) (F : List D → M D) : Sp := fun vs H Q E => ∃ μ s ds, SimS K μ H s ∧ RepL K μ H vs ds ∧ ds.length = n ∧ Post K E μ H (F ds s) (okD K Q)
def lenM (n : Nat) (F : List D → M D) (ds : List D) : M D := if ds.length = n then F ds else stuck
theorem te_own {K : PySem.W.Frag} {n : Nat} {F : List D → M D} : ∀ σ H Q, TEof K E (callM (lenM n F) mr) σ H Q → tCall (spM K n F) [] E (TAof K E mr) σ H Q := by
  rintro σ H Q ⟨μ, env, s, hv, hs, post⟩
  refine ⟨μ, env, s, hv, hs, (Post.bind post).mono fun ds s1 μ1 H1 g1 hs1 p1 vs hl => ?_⟩
  unfold lenM at p1
  split at p1
  · rename_i hn
    rw [List.append_nil]
    exact ⟨μ1, s1, ds, hs1, hl, hn, p1⟩
  · exact (show False from p1).elim
theorem se_call {CX : CXT} {k n : Nat} {fa : Addr} {fd : FuncData} {ps : List Str} {F : List D → M D} {x : Str} {p : Pos} (G : FnOk X.prog X.w X.K X.mg X.base CX k fa fd ps (spM X.K n F)) (hr : Room k X.A) (hg : Gl X x) (hm : X.mg x = some (.ref fa)) (hk : PySem.W.keepIn X.K (.ref fa) = true) (hb : Binds X.K fd ps []) (hx : Passes CX X E)
    (ha : SA X E (e :: es) mr) (hdb : (x == ("__debug__" : Str)) = false := by decide) (he : starEach (e :: es) X.env = (false, eval e X.env) :: starEach es X.env := by rfl) (hpl : (backTo pos (starEach es X.env)).any (·.1) = false := by rfl) :
    SE X E (.Call (.Name x p) (e :: es) [] pos) (callM (lenM n F) mr) := PE.imp (pe_call G hr hg hm hk hb .nil hx ha hdb he hpl) te_own
theorem se_call0 {CX : CXT} {k n : Nat} {fa : Addr} {fd : FuncData} {ps : List Str} {F : List D → M D} {x : Str} {p : Pos} (G : FnOk X.prog X.w X.K X.mg X.base CX k fa fd ps (spM X.K n F)) (hr : Room k X.A) (hg : Gl X x) (hm : X.mg x = some (.ref fa)) (hk : PySem.W.keepIn X.K (.ref fa) = true) (hb : Binds X.K fd ps []) (hx : Passes CX X E)
    (hdb : (x == ("__debug__" : Str)) = false := by decide) : SE X E (.Call (.Name x p) [] [] pos) (callM (lenM n F) nilA) := PE.imp (pe_call0 G hr hg hm hk hb .nil hx hdb) (by
  intro σ H Q h
  obtain ⟨μ, env, s, hv, hs, q⟩ := te_own σ H Q h
  exact Post.now q hs [] .nil)
end

/-! ### built-in functions -/
def fun1 (f : D → M D) (ds : List D) : M D := match ds with
  | [d] => f d
  | _ => stuck
def fun2 (f : D → D → M D) (ds : List D) : M D := match ds with
  | [d, e] => f d e
  | _ => stuck
def lenD (d : D) : M D := match d with
  | .tup ds => pure (.int ds.length)
  | .flst ds => pure (.int ds.length)
  | .vls ds => pure (.int ds.length)
  | .str x => if x.length ≤ 100000 then pure (.int x.length) else stuck
  | .ptr n => fun s => match s[n]? with
    | some (.lst ds) => .ok (.int ds.length) s
    | some (.dK kvs) => .ok (.int kvs.length) s
    | _ => .stuck
  | _ => stuck
def intD (d : D) : M D := match d with
  | .int i => pure (.int i)
  | .bl k => pure (.int (if k then 1 else 0))
  | _ => stuck
def absD (d : D) : M D := match d with
  | .int i => pure (.int (if i < 0 then -i else i))
  | _ => stuck
def int2 (f : Int → Int → D) (d e : D) : M D := match d with
  | .int i => (match e with
    | .int j => pure (f i j)
    | _ => stuck)
  | _ => stuck
def min2D : D → D → M D := int2 fun i j => .int (if j < i then j else i)
def max2D : D → D → M D := int2 fun i j => .int (if j > i then j else i)
def gcdD : D → D → M D := int2 fun i j => .int ((Nat.gcd i.natAbs j.natAbs : Nat) : Int)
def listD (d : D) : M D := match d with
  | .tup ds => allocC (.lst ds)
  | .flst ds => allocC (.lst ds)
  | .vls ds => allocC (.lst ds)
  | .ptr n => fun s => match s[n]? with
    | some (.lst ds) => allocC (.lst ds) s
    | _ => .stuck
  | _ => stuck
/-- list(x), whose answer nobody writes -/
def listF (d : D) : M D := match d with
  | .tup ds => pure (.vls ds)
  | .flst ds => pure (.vls ds)
  | .vls ds => pure (.vls ds)
  | .ptr n => fun s => match s[n]? with
    | some (.lst ds) => .ok (.vls ds) s
    | _ => .stuck
  | _ => stuck
def tupleD (d : D) : M D := match d with
  | .tup ds => pure (.tup ds)
  | .flst ds => pure (.tup ds)
  | .vls ds => pure (.tup ds)
  | .ptr n => fun s => match s[n]? with
    | some (.lst ds) => .ok (.tup ds) s
    | _ => .stuck
  | _ => stuck
def dBls : List D → Option (List Bool)
  | [] => some []
  | .bl b :: r => (dBls r).map (b :: ·)
  | _ :: _ => none
def seqD (s : S) : D → Option (List D)
  | .flst ds => some ds
  | .vls ds => some ds
  | .ptr n => match s[n]? with
    | some (.lst ds) => some ds
    | _ => none
  | _ => none
def allD (x : D) : M D := fun s => match seqD s x with
    | some ds => (match dBls ds with
      | some bs => .ok (.bl (bs.all id)) s
      | none => .stuck)
    | none => .stuck
def anyD (x : D) : M D := fun s => match seqD s x with
    | some ds => (match dBls ds with
      | some bs => .ok (.bl (bs.any id)) s
      | none => .stuck)
    | none => .stuck
theorem seqD_rep {K : PySem.W.Frag} {μ : Mu} {H : Hp} {s : S} {x : D} {v : V} {ds : List D} (hs : SimS K μ H s) (r : Rep K μ H v x) (e : seqD s x = some ds) : ∃ a xs, v = .ref a ∧ SqL K H a xs ∧ RepL K μ H xs ds := by
  cases r with
  | @flst a xs es h l =>
    cases e
    exact ⟨a, xs, rfl, h.sqL, l⟩
  | @vls a xs es h l =>
    cases e
    exact ⟨a, xs, rfl, h.sqL, l⟩
  | @ptr a n h =>
    unfold seqD at e
    simp only [] at e
    split at e
    · rename_i es hd
      cases e
      obtain ⟨xs, h1, l⟩ := cell_lst hs h hd
      exact ⟨a, xs, rfl, SqL.of h1, l⟩
    · cases e
  | _ => cases e
theorem dBls_rep {K : PySem.W.Frag} {μ : Mu} {H : Hp} : ∀ {ds : List D} {xs : List V} {bs : List Bool}, dBls ds = some bs → RepL K μ H xs ds → xs = bs.map V.bl
  | [], _, bs, e, .nil => by
    unfold dBls at e
    cases e
    rfl
  | .bl i :: r, _, bs, e, .cons h t => by
    unfold dBls at e
    cases q : dBls r with
    | none => rw [q] at e; cases e
    | some ms =>
      rw [q] at e
      cases e
      cases h
      rw [dBls_rep q t]
      rfl
  | .non :: r, _, bs, e, _ => by unfold dBls at e; cases e
  | .int _ :: r, _, bs, e, _ => by unfold dBls at e; cases e
  | .str _ :: r, _, bs, e, _ => by unfold dBls at e; cases e
  | .tup _ :: r, _, bs, e, _ => by unfold dBls at e; cases e
  | .flst _ :: r, _, bs, e, _ => by unfold dBls at e; cases e
  | .vls _ :: r, _, bs, e, _ => by unfold dBls at e; cases e
  | .ptr _ :: r, _, bs, e, _ => by unfold dBls at e; cases e
section
variable {X : Cx} {E : XK}
theorem repL1 {K : PySem.W.Frag} {μ : Mu} {H : Hp} {xs : List V} {d : D} (h : RepL K μ H xs [d]) : ∃ v, xs = [v] ∧ Rep K μ H v d := by
  cases h with
  | cons r t => cases t; exact ⟨_, rfl, r⟩
theorem repL2 {K : PySem.W.Frag} {μ : Mu} {H : Hp} {xs : List V} {d e : D} (h : RepL K μ H xs [d, e]) : ∃ v w, xs = [v, w] ∧ Rep K μ H v d ∧ Rep K μ H w e := by
  cases h with
  | cons r t =>
    obtain ⟨w, rfl, q⟩ := repL1 t
    exact ⟨_, w, rfl, r, q⟩
theorem CallR.imp {f : Value} {r r' : List V → Hp → VK → Prop} (h : CallR X f r) (k : ∀ xs H Q, r' xs H Q → r xs H Q) : CallR X f r' := fun pins s σ H xs us Q I rr q => h pins s σ H xs us Q I rr (k _ _ _ q)
theorem rl_1 {K : PySem.W.Frag} {g : D → M D} {r : List V → Hp → VK → Prop} (h : ∀ μ s d v H Q, SimS K μ H s → Rep K μ H v d → Post K E μ H (g d s) (okD K Q) → r [v] H Q) : ∀ xs H Q, RLof K E (fun1 g) xs H Q → r xs H Q := by
  rintro xs H Q ⟨μ, s, ds, hs, hl, post⟩
  cases hl with
  | nil => exact (show False from post).elim
  | cons a t =>
    cases t with
    | nil => exact h μ s _ _ H Q hs a post
    | cons b t => exact (show False from post).elim
theorem rl_2 {K : PySem.W.Frag} {g : D → D → M D} {r : List V → Hp → VK → Prop} (h : ∀ μ s d e v w H Q, SimS K μ H s → Rep K μ H v d → Rep K μ H w e → Post K E μ H (g d e s) (okD K Q) → r [v, w] H Q) : ∀ xs H Q, RLof K E (fun2 g) xs H Q → r xs H Q := by
  rintro xs H Q ⟨μ, s, ds, hs, hl, post⟩
  cases hl with
  | nil => exact (show False from post).elim
  | cons a t =>
    cases t with
    | nil => exact (show False from post).elim
    | cons b t =>
      cases t with
      | nil => exact h μ s _ _ _ _ H Q hs a b post
      | cons c t => exact (show False from post).elim
theorem cr_int : CallR X (.type "int") (RLof X.K E (fun1 intD)) := CallR.imp call_int1 (rl_1 fun μ s d v H Q hs r post => by
  cases r with
  | int i => exact .inl ⟨_, rfl, post_int hs post⟩
  | bl k => exact .inr ⟨_, rfl, post_int hs post⟩
  | _ => exact (show False from post).elim)
theorem cr_abs : CallR X (.builtin "abs") (RLof X.K E (fun1 absD)) := CallR.imp call_abs (rl_1 fun μ s d v H Q hs r post => by
  cases r with
  | int i => exact ⟨_, rfl, post_int hs post⟩
  | _ => exact (show False from post).elim)
theorem int2_rep {K : PySem.W.Frag} {f : Int → Int → D} {μ : Mu} {s : S} {d e : D} {v w : V} {H : Hp} {Q : VK} (hs : SimS K μ H s) (r : Rep K μ H v d) (r' : Rep K μ H w e) (post : Post K E μ H (int2 f d e s) (okD K Q)) : ∃ i j, v = .int i ∧ w = .int j ∧ Post K E μ H (.ok (f i j) s) (okD K Q) := by
  cases r with
  | int i =>
    cases r' with
    | int j => exact ⟨i, j, rfl, rfl, post⟩
    | _ => exact (show False from post).elim
  | _ => exact (show False from post).elim
theorem cr_min2 (hc : X.calm = true) : CallR X (.builtin "min") (RLof X.K E (fun2 min2D)) := CallR.imp (call_min2 hc) (rl_2 fun μ s d e v w H Q hs r r' post => by
  obtain ⟨i, j, rfl, rfl, p⟩ := int2_rep hs r r' post
  exact ⟨i, j, rfl, post_int hs p⟩)
theorem cr_max2 (hc : X.calm = true) : CallR X (.builtin "max") (RLof X.K E (fun2 max2D)) := CallR.imp (call_max2 hc) (rl_2 fun μ s d e v w H Q hs r r' post => by
  obtain ⟨i, j, rfl, rfl, p⟩ := int2_rep hs r r' post
  exact ⟨i, j, rfl, post_int hs p⟩)
theorem cr_gcdD : CallR X (.builtin "math.gcd") (RLof X.K E (fun2 gcdD)) := CallR.imp cr_gcd (rl_2 fun μ s d e v w H Q hs r r' post => by
  obtain ⟨i, j, rfl, rfl, p⟩ := int2_rep hs r r' post
  exact ⟨i, j, rfl, post_int hs p⟩)
theorem cr_len : CallR X (.builtin "len") (RLof X.K E (fun1 lenD)) := CallR.imp (CallR.or call_len_seq (CallR.or call_len_str call_lenD)) (rl_1 fun μ s d v H Q hs r post => by
  unfold lenD at post
  cases r with
  | tup ht hl => exact .inl ⟨_, _, rfl, .inr ht, by rw [hl.length]; exact post_int hs post⟩
  | flst ht hl => exact .inl ⟨_, _, rfl, .inl ht.sqL, by rw [hl.length]; exact post_int hs post⟩
  | vls ht hl => exact .inl ⟨_, _, rfl, .inl ht.sqL, by rw [hl.length]; exact post_int hs post⟩
  | str x =>
    simp only [] at post
    split at post
    · rename_i hz
      exact .inr (.inl ⟨_, rfl, sz_ok hz, post_int hs post⟩)
    · exact (show False from post).elim
  | @ptr a n hn =>
    cases ec : s[n]? with
    | none => simp only [ec] at post; exact (show False from post).elim
    | some cl =>
      simp only [ec] at post
      cases cl with
      | lst es =>
        obtain ⟨ys, h1, h2⟩ := cell_lst hs hn ec
        exact .inl ⟨_, _, rfl, .inl (SqL.of h1), by rw [h2.length]; exact post_int hs post⟩
      | dK kvs =>
        obtain ⟨ys, h1, h2⟩ := cell_dK hs hn ec
        have e : ys.length = kvs.length := by
          have := congrArg List.length h2.1
          rw [List.length_map, List.length_map] at this
          exact this
        exact .inr (.inr ⟨_, _, rfl, h1, by rw [e]; exact post_int hs post⟩)
      | dT kvs => exact (show False from post).elim
      | ins C fs => exact (show False from post).elim
      | fK kvs => exact (show False from post).elim
  | _ => exact (show False from post).elim)
theorem cr_list : CallR X (.type "list") (RLof X.K E (fun1 listD)) := CallR.imp call_list_of (rl_1 fun μ s d v H Q hs r post => by
  unfold listD at post
  cases r with
  | tup ht hl => exact ⟨_, _, rfl, .inr ht, post_alloc hs hl post⟩
  | flst ht hl => exact ⟨_, _, rfl, .inl ht.sqL, post_alloc hs hl post⟩
  | vls ht hl => exact ⟨_, _, rfl, .inl ht.sqL, post_alloc hs hl post⟩
  | @ptr a n hn =>
    cases ec : s[n]? with
    | none => simp only [ec] at post; exact (show False from post).elim
    | some cl =>
      simp only [ec] at post
      cases cl with
      | lst es =>
        obtain ⟨ys, h1, h2⟩ := cell_lst hs hn ec
        exact ⟨_, _, rfl, .inl (SqL.of h1), post_alloc hs h2 post⟩
      | _ => exact (show False from post).elim
  | _ => exact (show False from post).elim)
theorem cr_listF : CallR X (.type "list") (RLof X.K E (fun1 listF)) := CallR.imp call_list_of (rl_1 fun μ s d v H Q hs r post => by
  unfold listF at post
  cases r with
  | tup ht hl => exact ⟨_, _, rfl, .inr ht, post_vls hs hl post⟩
  | flst ht hl => exact ⟨_, _, rfl, .inl ht.sqL, post_vls hs hl post⟩
  | vls ht hl => exact ⟨_, _, rfl, .inl ht.sqL, post_vls hs hl post⟩
  | @ptr a n hn =>
    cases ec : s[n]? with
    | none => simp only [ec] at post; exact (show False from post).elim
    | some cl =>
      simp only [ec] at post
      cases cl with
      | lst es =>
        obtain ⟨ys, h1, h2⟩ := cell_lst hs hn ec
        exact ⟨_, _, rfl, .inl (SqL.of h1), post_vls hs h2 post⟩
      | _ => exact (show False from post).elim
  | _ => exact (show False from post).elim)
theorem cr_tuple : CallR X (.type "tuple") (RLof X.K E (fun1 tupleD)) := CallR.imp call_tuple_of (rl_1 fun μ s d v H Q hs r post => by
  unfold tupleD at post
  cases r with
  | tup ht hl => exact ⟨_, _, rfl, .inr ⟨ht, post_val hs post (.tup ht hl)⟩⟩
  | flst ht hl => exact ⟨_, _, rfl, .inl ⟨ht.sqL, post_tup hs hl post⟩⟩
  | vls ht hl => exact ⟨_, _, rfl, .inl ⟨ht.sqL, post_tup hs hl post⟩⟩
  | @ptr a n hn =>
    cases ec : s[n]? with
    | none => simp only [ec] at post; exact (show False from post).elim
    | some cl =>
      simp only [ec] at post
      cases cl with
      | lst es =>
        obtain ⟨ys, h1, h2⟩ := cell_lst hs hn ec
        exact ⟨_, _, rfl, .inl ⟨SqL.of h1, post_tup hs h2 post⟩⟩
      | _ => exact (show False from post).elim
  | _ => exact (show False from post).elim)
theorem cr_allD (hc : X.calm = true) : CallR X (.builtin "all") (RLof X.K E (fun1 allD)) := CallR.imp (cr_all hc) (rl_1 fun μ s d v H Q hs r post => by
  unfold allD at post
  cases e1 : seqD s d with
  | none => simp only [e1] at post; exact (show False from post).elim
  | some ds =>
    cases e2 : dBls ds with
    | none => simp only [e1, e2] at post; exact (show False from post).elim
    | some bs =>
      simp only [e1, e2] at post
      obtain ⟨a, xs, rfl, h1, h2⟩ := seqD_rep hs r e1
      rw [dBls_rep e2 h2] at h1
      exact ⟨a, bs, rfl, h1, post_bl hs post⟩)
theorem cr_anyD (hc : X.calm = true) : CallR X (.builtin "any") (RLof X.K E (fun1 anyD)) := CallR.imp (cr_any hc) (rl_1 fun μ s d v H Q hs r post => by
  unfold anyD at post
  cases e1 : seqD s d with
  | none => simp only [e1] at post; exact (show False from post).elim
  | some ds =>
    cases e2 : dBls ds with
    | none => simp only [e1, e2] at post; exact (show False from post).elim
    | some bs =>
      simp only [e1, e2] at post
      obtain ⟨a, xs, rfl, h1, h2⟩ := seqD_rep hs r e1
      rw [dBls_rep e2 h2] at h1
      exact ⟨a, bs, rfl, h1, post_bl hs post⟩)
end

/-! ### isinstance -/
def tyNm (s : S) : D → Option String
  | .non => some "NoneType"
  | .bl _ => some "bool"
  | .int _ => some "int"
  | .str _ => some "str"
  | .tup _ => some "tuple"
  | .flst _ => some "list"
  | .vls _ => some "list"
  | .ptr n => match s[n]? with
    | some (.lst _) => some "list"
    | some (.dK _) => some "dict"
    | some (.dT _) => some "dict"
    | _ => none
def isiD (T : String) (d : D) : M D := fun s => match tyNm s d with
  | some t => (match kitB t T with
    | some b => .ok (.bl b) s
    | none => .stuck)
  | none => .stuck
theorem tyNm_rep {K : PySem.W.Frag} {μ : Mu} {H : Hp} {s : S} {d : D} {v : V} {t : String} (hs : SimS K μ H s) (r : Rep K μ H v d) (e : tyNm s d = some t) : TyX K H v (.type t) := by
  unfold tyNm at e
  cases r with
  | non => cases e; exact .base .non
  | bl b => cases e; exact .base (.bl b)
  | int i => cases e; exact .base (.int i)
  | str x => cases e; exact .base (.str x)
  | tup ht hl =>
    cases e
    rcases ht with (h | ⟨o, h⟩) | ⟨o, its, n, hk, hc, _⟩
    · exact .base (.tup h)
    · exact .fTuple h
    · exact .kTuple hk hc
  | flst ht hl =>
    cases e
    rcases ht with ⟨o, h⟩ | ⟨o, its, n, hk, hc, _⟩
    · exact .base (.frz h)
    · exact .kList hk hc
  | vls ht hl =>
    cases e
    exact .base (.lst ht.at_)
  | @ptr a n hn =>
    cases ec : s[n]? with
    | none => simp only [ec] at e; cases e
    | some cl =>
      simp only [ec] at e
      cases cl with
      | lst es =>
        obtain ⟨ys, h1, h2⟩ := cell_lst hs hn ec
        cases e
        exact .base (.lst h1)
      | dK kvs =>
        obtain ⟨ys, h1, h2⟩ := cell_dK hs hn ec
        cases e
        exact .base (.dK h1)
      | dT kvs =>
        obtain ⟨b, hb, ys, h1, h2⟩ := hs.cell n _ ec
        rw [hn] at hb
        cases hb
        cases e
        exact .base (.dT h1)
      | ins C fs => cases e
      | fK kvs => cases e
section
variable {X : Cx} {E : XK} {a : Expr} {ma : Env → M D} {pos p pT : Pos}
theorem se_isi {T : Str} {Ts : String} (ha : SE X E a ma) (hg : Gl X "isinstance") (hm : X.mg "isinstance" = none) (hgT : Gl X T) (hmT : X.mg T = none) (hvT : bootBuiltins T = some (.type Ts)) (hn : T ≠ "__name__" := by decide) (hd : (T == ("__debug__" : Str)) = false := by decide)
    (hb : bootBuiltins "isinstance" = some (.builtin "isinstance") := by decide +kernel)
    (he : starEach [a, .Name T pT] X.env = (false, eval a X.env) :: starEach [.Name T pT] X.env := by rfl) :
    SE X E (.Call (.Name "isinstance" p) [a, .Name T pT] [] pos) (unM (isiD Ts) ma) := by
  have hTy : PE X (.Name T pT) (tC (.ty Ts)) := pe_bltn hgT hmT hvT rfl hn hd
  refine PE.imp (pe_callB call_isi hg hm hb (pa_cons ha (pa_cons hTy pa_nil) he) (by decide) (by decide) he rfl) ?_
  rintro σ H Q ⟨μ, env, s, hv, hs, post⟩
  refine ⟨μ, env, s, hv, hs, (Post.bind post).mono fun x s1 μ1 H1 g1 hs1 p1 v hx => ?_⟩
  unfold isiD at p1
  cases e1 : tyNm s1 x with
  | none => simp only [e1] at p1; exact (show False from p1).elim
  | some t =>
    cases e2 : kitB t Ts with
    | none => simp only [e1, e2] at p1; exact (show False from p1).elim
    | some b =>
      simp only [e1, e2] at p1
      exact ⟨v, .ty Ts, .type t, .type Ts, b, rfl, .ty Ts, tyNm_rep hs1 hx e1, kit_ty e2, post_bl hs1 p1⟩
end
end PL

/-! PL4: targets, walks, comprehensions, statements, loops, a def. -/
namespace PL
open PySem PySem.Spec PyProof.Rows L2

/-! ### targets -/
def TGof (K : PySem.W.Frag) (E : XK) (g : D → Env → M Env) : TG := fun v σ H Q => ∃ μ env s d, SimV K μ H σ env ∧ SimS K μ H s ∧ Rep K μ H v d ∧ Post K E μ H (g d env s) (fun env' _ μ' H' => ∀ σ', SimV K μ' H' σ' env' → Q σ' H')
def TGsof (K : PySem.W.Frag) (E : XK) (g : List D → Env → M Env) : TGs := fun vs σ H Q => ∃ μ env s ds, SimV K μ H σ env ∧ SimS K μ H s ∧ RepL K μ H vs ds ∧ Post K E μ H (g ds env s) (fun env' _ μ' H' => ∀ σ', SimV K μ' H' σ' env' → Q σ' H')
def SG (X : Cx) (E : XK) (tg : Expr) (g : D → Env → M Env) : Prop := PG X tg (TGof X.K E g)
def SGs (X : Cx) (E : XK) (tgs : List Expr) (g : List D → Env → M Env) : Prop := PGs X tgs (TGsof X.K E g)
def gNm (i : Nat) (d : D) (env : Env) : M Env := pure (env.set i (some d))
def gNilM (ds : List D) (env : Env) : M Env := match ds with
  | [] => pure env
  | _ => stuck
def gConsM (g : D → Env → M Env) (gs : List D → Env → M Env) (ds : List D) (env : Env) : M Env := match ds with
  | [] => stuck
  | d :: r => g d env >>= fun env' => gs r env'
def gTupM (n : Nat) (gs : List D → Env → M Env) (d : D) (env : Env) : M Env := match d with
  | .tup ds => if ds.length = n then gs ds env else stuck
  | _ => stuck
theorem PG.imp {X : Cx} {e : Expr} {t t' : TG} (h : PG X e t) (f : ∀ v σ H Q, t' v σ H Q → t v σ H Q) : PG X e t' := ⟨fun pins s σ H v u Q I r q => h.run pins s σ H v u Q I r (f v σ H Q q)⟩
theorem PGs.imp {X : Cx} {e : List Expr} {t t' : TGs} (h : PGs X e t) (f : ∀ v σ H Q, t' v σ H Q → t v σ H Q) : PGs X e t' := ⟨fun pins s σ H vs us Q I r q => h.run pins s σ H vs us Q I r (f vs σ H Q q)⟩

/-! ### storing into a list, a dict -/
def putL (ds : List D) (y v : D) (n : Nat) : M Unit := match y with
  | .int i => (match ixN ds.length i with
    | some j => fun s => .ok () (s.set n (.lst (ds.set j v)))
    | none => stuck)
  | _ => stuck
/-- o[i] = v of a list -/
def setLD (o i v : D) : M Unit := match o with
  | .ptr n => fun s => match s[n]? with
    | some (.lst ds) => putL ds i v n s
    | _ => .stuck
  | _ => stuck
def gSubM (mo mi : Env → M D) (f : D → D → D → M Unit) (v : D) (env : Env) : M Env := mo env >>= fun o => mi env >>= fun i => f o i v >>= fun _ => pure env
section
variable {X : Cx} {E : XK} {e a b : Expr} {ma mb : Env → M D} {pos p : Pos}
theorem sg_name (i : Nat) {x : Str} (hN : X.N.Nodup) (hi : X.N[i]? = some x := by rfl) (hx : Loc X.env.scope x := by first | exact Or.inl rfl | exact Or.inr rfl) (hf : X.fn x = true ∨ X.env.scope.names.lookup x = some .local := by first | exact .inl rfl | exact .inr rfl | assumption) : SG X E (.Name x pos) (gNm i) := PG.imp (pg_name hN hi hx hf) (by
  rintro v σ H Q ⟨μ, env, s, d, hv, hs, r, post⟩
  exact Post.now (a := env.set i (some d)) post hs _ (hv.set r i))
theorem sgs_nil : SGs X E [] gNilM := PGs.imp pgs_nil (by
  rintro vs σ H Q ⟨μ, env, s, ds, hv, hs, r, post⟩
  cases r with
  | nil => exact ⟨rfl, Post.now (a := env) post hs _ hv⟩
  | cons _ _ => exact (show False from post).elim)
theorem sgs_cons {es : List Expr} {g : D → Env → M Env} {gs : List D → Env → M Env} (h1 : SG X E e g) (h2 : SGs X E es gs) (ha : (assignEach (e :: es) X.env).map (·.2) = assign e X.env :: (assignEach es X.env).map (·.2) := by rfl) : SGs X E (e :: es) (gConsM g gs) := PGs.imp (pgs_cons h1 h2 ha) (by
  rintro vs σ H Q ⟨μ, env, s, ds, hv, hs, r, post⟩
  cases r with
  | nil => exact (show False from post).elim
  | @cons v vs d ds r1 r2 =>
    refine ⟨v, vs, rfl, μ, env, s, d, hv, hs, r1, (Post.bind post).mono fun env1 s1 μ1 H1 g1 hs1 p1 σ1 hv1 => ?_⟩
    exact ⟨μ1, env1, s1, ds, hv1, hs1, RepL.grow g1 _ _ r2, p1⟩)
theorem sg_tup {es : List Expr} {k n : Nat} {gs : List D → Env → M Env} (hc : X.calm = true) (h : SGs X E es gs) (hn : (assignEach es X.env).length = n := by rfl) (hst : (assignEach es X.env).findIdx? (·.1) = none := by rfl) : SG X E (.Tuple es k pos) (gTupM n gs) := PG.imp (pg_tup hc h hn hst) (by
  rintro v σ H Q ⟨μ, env, s, d, hv, hs, r, post⟩
  cases r with
  | @tup a xs ds ht hl =>
    unfold gTupM at post
    simp only [] at post
    split at post
    · rename_i hn
      exact ⟨a, xs, rfl, ht, hl.length.trans hn, μ, env, s, ds, hv, hs, hl, post⟩
    · exact (show False from post).elim
  | _ => exact (show False from post).elim)
/-- a store by values: what it asks -/
theorem setL_ok {K : PySem.W.Frag} {μ : Mu} {H : Hp} {s : S} {o i v : D} {x y z : V} {q : Unit → S → Mu → Hp → Prop} (hs : SimS K μ H s) (ro : Rep K μ H x o) (ri : Rep K μ H y i) (rv : Rep K μ H z v) (post : Post K E μ H (setLD o i v s) q) :
    rSetL x y z H (fun H' => ∃ s', Grow μ H μ H' ∧ SimS K μ H' s' ∧ q () s' μ H') := by
  unfold setLD at post
  cases ro with
  | @ptr a n hn =>
    cases ec : s[n]? with
    | none => simp only [ec] at post; exact (show False from post).elim
    | some cl =>
      simp only [ec] at post
      cases cl with
      | lst ds =>
        obtain ⟨xs, h1, hl⟩ := cell_lst hs hn ec
        unfold putL at post
        cases ri with
        | int k =>
          cases ej : ixN ds.length k with
          | none => simp only [ej] at post; exact (show False from post).elim
          | some j =>
            simp only [ej] at post
            have hm : Mut (H a) := by rw [h1]; trivial
            have g := grow_put (μ := μ) (H := H) (a := a) (o := .lst (xs.set j z)) hm (List.mem_of_getElem? hn)
            have hs' : SimS K μ (upd H a (.lst (xs.set j z))) (s.set n (.lst (ds.set j v))) := hs.put hn hm ⟨_, upd_same, RepL.grow g _ _ (hl.set rv j)⟩
            exact ⟨a, xs, k, j, rfl, rfl, h1, by rw [hl.length]; exact ej, _, g, hs', post _ _ g hs'⟩
        | _ => exact (show False from post).elim
      | dK kvs => exact (show False from post).elim
      | dT kvs => exact (show False from post).elim
      | ins C fs => exact (show False from post).elim
      | fK kvs => exact (show False from post).elim
  | _ => exact (show False from post).elim
theorem sg_subL (ha : SE X E a ma) (hb : SE X E b mb) (hh : ∀ v, assign (.Subscript a b pos) X.env v = (do
      let ov ← holding [v] (eval a X.env)
      let iv ← holding [v, ov] (eval b X.env)
      standAt pos
      holding [v, ov, iv] (setItem ov iv v)
      release [v, ov, iv] []) := by intro _; rfl) : SG X E (.Subscript a b pos) (gSubM ma mb setLD) := PG.imp (pg_sub ha hb set_list hh) (by
  rintro v σ H Q ⟨μ, env, s, d, hv, hs, r, post⟩
  refine ⟨μ, env, s, hv, hs, (Post.bind post).mono fun o s1 μ1 H1 g1 hs1 p1 x hx => ?_⟩
  refine ⟨μ1, env, s1, hv.grow g1, hs1, (Post.bind p1).mono fun i s2 μ2 H2 g2 hs2 p2 y hy => ?_⟩
  obtain ⟨a, xs, k, j, e1, e2, h1, h2, s3, g3, hs3, q3⟩ := setL_ok hs2 (Rep.grow g2 o x hx) hy (Rep.grow (g1.trans g2) d v r) (Post.bind p2)
  exact ⟨a, xs, k, j, e1, e2, h1, h2, Post.now (a := env) q3 hs3 _ (((hv.grow g1).grow g2).grow g3)⟩)
end

/-! ### walks -/
/-- what is walked: the items; the cell that must stand still -/
structure Src where
  items : List D
  cell : Option (Nat × List D)
def Src.Ok (r : Src) (s : S) : Prop := match r.cell with
  | none => True
  | some (n, ds) => s[n]? = some (.lst ds)
def GoodIt (K : PySem.W.Frag) (μ0 : Mu) (H0 : Hp) (J : It) (r : Src) : Prop :=
  ∀ μ H s, GrowW μ0 H0 μ H → SimS K μ H s → r.Ok s →
    (∀ i d, r.items[i]? = some d → J.go i H ∧ ∀ x H', J.yld i H x H' → Grow μ H μ H' ∧ SimS K μ H' s ∧ Rep K μ H' x d) ∧ J.stop r.items.length H
def TIof (K : PySem.W.Frag) (E : XK) (m : Env → M Src) : TI := fun σ H R => ∃ μ env s, SimV K μ H σ env ∧ SimS K μ H s ∧ Post K E μ H (m env s) (fun r _ μ' H' => ∀ J, GoodIt K μ' H' J r → R J H')
def SI (X : Cx) (E : XK) (tg iter : Expr) (m : Env → M Src) : Prop := PI X tg iter (TIof X.K E m)
theorem PI.imp {X : Cx} {tg e : Expr} {t t' : TI} (h : PI X tg e t) (f : ∀ σ H Q, t' σ H Q → t σ H Q) : PI X tg e t' := ⟨fun pins s σ H R I q => h.run pins s σ H R I (f σ H R q)⟩
theorem PI.or {X : Cx} {tg e : Expr} {t t' : TI} (h : PI X tg e t) (h' : PI X tg e t') : PI X tg e (fun σ H Q => t σ H Q ∨ t' σ H Q) :=
  ⟨fun pins s σ H R I q => q.elim (fun q => h.run pins s σ H R I q) (fun q => h'.run pins s σ H R I q)⟩
/-- a list or a tuple -/
def signsOf (x : Str) : List D := x.cps.toList.map fun c => D.str ⟨#[c]⟩
def srcD (d : D) : M Src := match d with
  | .str x => pure ⟨signsOf x, none⟩
  | .tup ds => pure ⟨ds, none⟩
  | .flst ds => pure ⟨ds, none⟩
  | .vls ds => pure ⟨ds, none⟩
  | .ptr n => fun s => match s[n]? with
    | some (.lst ds) => .ok ⟨ds, some (n, ds)⟩ s
    | _ => .stuck
  | _ => stuck
def srcM (m : Env → M D) (env : Env) : M Src := m env >>= srcD
def rngItems (lo : Int) (n : Nat) : List D := (List.range n).map fun (i : Nat) => D.int (lo + (i : Int))
def rng1D (ds : List D) : M Src := match ds with
  | [.int j] => if -4000000000 ≤ j ∧ j ≤ 4000000000 then pure ⟨rngItems 0 j.toNat, none⟩ else stuck
  | _ => stuck
def rng2D (ds : List D) : M Src := match ds with
  | [.int i, .int j] => if (-4000000000 ≤ i ∧ i ≤ 4000000000) ∧ (-4000000000 ≤ j ∧ j ≤ 4000000000) then pure ⟨rngItems i (j - i).toNat, none⟩ else stuck
  | _ => stuck
def srcA (f : List D → M Src) (m : Env → M (List D)) (env : Env) : M Src := m env >>= f
theorem good_tup {K : PySem.W.Frag} {μ : Mu} {H : Hp} {a : Addr} {xs : List V} {ds : List D} (h : SqT K H a xs) (l : RepL K μ H xs ds) : GoodIt K μ H (Itt K a) ⟨ds, none⟩ := fun μ' H' s g hs _ => by
  have h' := g.sqT h
  have l' := RepL.growW g _ _ l
  refine ⟨fun i d e => ?_, xs, h', Nat.le_of_eq l.length⟩
  obtain ⟨v, hv, r⟩ := l'.get e
  refine ⟨⟨xs, v, h', hv⟩, fun x H2 y => ?_⟩
  obtain ⟨rfl, y⟩ := y
  have e2 : v = x := Option.some.inj (hv.symm.trans (y xs h'))
  subst e2
  exact ⟨Grow.refl _ _, hs, r⟩
theorem good_flst {K : PySem.W.Frag} {μ : Mu} {H : Hp} {a : Addr} {xs : List V} {ds : List D} (h : FrzL K H a xs) (l : RepL K μ H xs ds) : GoodIt K μ H (Itl K a) ⟨ds, none⟩ := fun μ' H' s g hs _ => by
  have h' := (g.frzL h).sqL
  have l' := RepL.growW g _ _ l
  refine ⟨fun i d e => ?_, xs, h', Nat.le_of_eq l.length⟩
  obtain ⟨v, hv, r⟩ := l'.get e
  refine ⟨⟨xs, v, h', hv⟩, fun x H2 y => ?_⟩
  obtain ⟨rfl, y⟩ := y
  have e2 : v = x := Option.some.inj (hv.symm.trans (y xs h'))
  subst e2
  exact ⟨Grow.refl _ _, hs, r⟩
theorem good_vls {K : PySem.W.Frag} {μ : Mu} {H : Hp} {a : Addr} {xs : List V} {ds : List D} (h : VlsL μ H a xs) (l : RepL K μ H xs ds) : GoodIt K μ H (Itl K a) ⟨ds, none⟩ := fun μ' H' s g hs _ => by
  have h' := (g.vls h).sqL (K := K)
  have l' := RepL.growW g _ _ l
  refine ⟨fun i d e => ?_, xs, h', Nat.le_of_eq l.length⟩
  obtain ⟨v, hv, r⟩ := l'.get e
  refine ⟨⟨xs, v, h', hv⟩, fun x H2 y => ?_⟩
  obtain ⟨rfl, y⟩ := y
  have e2 : v = x := Option.some.inj (hv.symm.trans (y xs h'))
  subst e2
  exact ⟨Grow.refl _ _, hs, r⟩
theorem good_lst {K : PySem.W.Frag} {μ : Mu} {H : Hp} {a : Addr} {n : Nat} {ds : List D} (h : μ.c[n]? = some a) : GoodIt K μ H (Itl K a) ⟨ds, some (n, ds)⟩ := fun μ' H' s g hs ok => by
  obtain ⟨xs, h1, l'⟩ := cell_lst hs (g.at h) ok
  have h' : SqL K H' a xs := SqL.of h1
  refine ⟨fun i d e => ?_, xs, h', Nat.le_of_eq l'.length⟩
  obtain ⟨v, hv, r⟩ := l'.get e
  refine ⟨⟨xs, v, h', hv⟩, fun x H2 y => ?_⟩
  obtain ⟨rfl, y⟩ := y
  have e2 : v = x := Option.some.inj (hv.symm.trans (y xs h'))
  subst e2
  exact ⟨Grow.refl _ _, hs, r⟩
theorem good_str {K : PySem.W.Frag} {μ : Mu} {H : Hp} {x : Str} : GoodIt K μ H (Its x) ⟨signsOf x, none⟩ := fun μ' H' s g hs _ => by
  have hl : (signsOf x).length = x.cps.size := by unfold signsOf; rw [List.length_map, Array.length_toList]
  refine ⟨fun i d e => ?_, Nat.le_of_eq hl.symm⟩
  have hi : i < x.cps.size := by rw [← hl]; exact (List.getElem?_eq_some_iff.mp e).1
  refine ⟨hi, fun v H2 y => ?_⟩
  obtain ⟨rfl, c, hc, rfl⟩ := y
  unfold signsOf at e
  rw [List.getElem?_map, Array.getElem?_toList, hc] at e
  cases e
  exact ⟨Grow.refl _ _, hs, .str _⟩
theorem good_rng {K : PySem.W.Frag} {μ : Mu} {H : Hp} {lo : Int} {n : Nat} : GoodIt K μ H (Itr lo n) ⟨rngItems lo n, none⟩ := fun μ' H' s g hs _ => by
  have hl : (rngItems lo n).length = n := by unfold rngItems; rw [List.length_map, List.length_range]
  refine ⟨fun i d e => ?_, Nat.le_of_eq hl.symm⟩
  have hi : i < n := by rw [← hl]; exact (List.getElem?_eq_some_iff.mp e).1
  refine ⟨hi, fun x H2 y => ?_⟩
  obtain ⟨rfl, rfl⟩ := y
  unfold rngItems at e
  rw [List.getElem?_map, List.getElem?_range hi] at e
  cases e
  exact ⟨Grow.refl _ _, hs, .int _⟩
section
variable {X : Cx} {E : XK} {e a b tg : Expr} {ma mb : Env → M D} {pos p : Pos} {es : List Expr} {mr : Env → M (List D)}
theorem si_seq (ha : SE X E a ma) : SI X E tg a (srcM ma) := PI.imp (PI.or (pi_list ha) (PI.or (pi_tup ha) (pi_str ha))) (by
  rintro σ H R ⟨μ, env, s, hv, hs, post⟩
  have post' : Post X.K E μ H ((ma env >>= srcD) s) (fun r _ μ' H' => ∀ J, GoodIt X.K μ' H' J r → R J H') := post
  by_cases hd : ∃ ds s1, ma env s = .ok (.tup ds) s1
  · right; left
    obtain ⟨ds, s1, e1⟩ := hd
    rw [bind_ok e1] at post'
    refine ⟨μ, env, s, hv, hs, ?_⟩
    rw [e1]
    intro μ1 H1 g1 hs1 v hx
    cases hx with
    | @tup q xs _ ht hl => exact ⟨q, rfl, ⟨xs, ht⟩, Post.now (a := (⟨ds, none⟩ : Src)) (Post.later g1 post') hs1 _ (good_tup ht hl)⟩
  · by_cases hx : ∃ x s1, ma env s = .ok (.str x) s1
    · right; right
      obtain ⟨x, s1, e1⟩ := hx
      rw [bind_ok e1] at post'
      refine ⟨μ, env, s, hv, hs, ?_⟩
      rw [e1]
      intro μ1 H1 g1 hs1 v hx
      cases hx with
      | str x => exact ⟨x, rfl, Post.now (a := (⟨signsOf x, none⟩ : Src)) (Post.later g1 post') hs1 _ good_str⟩
    left
    refine ⟨μ, env, s, hv, hs, ?_⟩
    cases e1 : ma env s with
    | stuck => rw [bind_run, e1] at post'; exact (show False from post').elim
    | exc c s1 => rw [bind_exc e1] at post'; exact post'
    | ok x s1 =>
      rw [bind_ok e1] at post'
      intro μ1 H1 g1 hs1 v hxx
      have p1 := Post.later g1 post'
      unfold srcD at p1
      cases hxx with
      | tup ht hl => exact (hd ⟨_, _, e1⟩).elim
      | @flst q xs ds ht hl => exact ⟨q, rfl, ⟨xs, ht.sqL⟩, Post.now (a := (⟨ds, none⟩ : Src)) p1 hs1 _ (good_flst ht hl)⟩
      | @vls q xs ds ht hl => exact ⟨q, rfl, ⟨xs, ht.sqL⟩, Post.now (a := (⟨ds, none⟩ : Src)) p1 hs1 _ (good_vls ht hl)⟩
      | @ptr q n hn =>
        cases ec : s1[n]? with
        | none => simp only [ec] at p1; exact (show False from p1).elim
        | some cl =>
          simp only [ec] at p1
          cases cl with
          | lst ds =>
            obtain ⟨xs, h1, hl⟩ := cell_lst hs1 hn ec
            exact ⟨q, rfl, ⟨xs, SqL.of h1⟩, Post.now (a := (⟨ds, some (n, ds)⟩ : Src)) p1 hs1 _ (good_lst hn)⟩
          | dK kvs => exact (show False from p1).elim
          | dT kvs => exact (show False from p1).elim
          | ins C fs => exact (show False from p1).elim
          | fK kvs => exact (show False from p1).elim
      | non => exact (show False from p1).elim
      | bl _ => exact (show False from p1).elim
      | int _ => exact (show False from p1).elim
      | str x => exact (hx ⟨x, _, e1⟩).elim)
theorem si_range1 {mr : Env → M (List D)} (hg : Gl X "range") (hm : X.mg "range" = none) (ha : SA X E [a] mr) (hs : starEach [a] X.env = [(false, eval a X.env)] := by rfl) : SI X E tg (.Call (.Name "range" p) [a] [] pos) (srcA rng1D mr) := PI.imp (pi_range1 hg hm ha hs) (by
  rintro σ H R ⟨μ, env, s, hv, hs, post⟩
  refine ⟨μ, env, s, hv, hs, (Post.bind post).mono fun ds s1 μ1 H1 g1 hs1 p1 vs hl => ?_⟩
  unfold rng1D at p1
  split at p1
  · rename_i j
    obtain ⟨v, rfl, r⟩ := repL1 hl
    cases r
    split at p1
    · exact ⟨j, rfl, by omega, by omega, Post.now (a := (⟨rngItems 0 j.toNat, none⟩ : Src)) p1 hs1 _ good_rng⟩
    · exact (show False from p1).elim
  · exact (show False from p1).elim)
theorem si_range2 {mr : Env → M (List D)} (hg : Gl X "range") (hm : X.mg "range" = none) (ha : SA X E [a, b] mr) (hs : starEach [a, b] X.env = [(false, eval a X.env), (false, eval b X.env)] := by rfl) (hs2 : starEach [b] X.env = [(false, eval b X.env)] := by rfl) : SI X E tg (.Call (.Name "range" p) [a, b] [] pos) (srcA rng2D mr) := PI.imp (pi_range2 hg hm ha hs hs2) (by
  rintro σ H R ⟨μ, env, s, hv, hs, post⟩
  refine ⟨μ, env, s, hv, hs, (Post.bind post).mono fun ds s1 μ1 H1 g1 hs1 p1 vs hl => ?_⟩
  unfold rng2D at p1
  split at p1
  · rename_i i j
    obtain ⟨v, w, rfl, r, r'⟩ := repL2 hl
    cases r
    cases r'
    split at p1
    · exact ⟨i, j, rfl, by omega, Post.now (a := (⟨rngItems i (j - i).toNat, none⟩ : Src)) p1 hs1 _ good_rng⟩
    · exact (show False from p1).elim
  · exact (show False from p1).elim)
end

/-! ### comprehensions -/
def wipeE (env : Env) : List Nat → Env
  | [] => env
  | v :: vs => (wipeE env vs).set v none
theorem SimV.wipe {K : PySem.W.Frag} {μ : Mu} {H : Hp} {σ : L2.St} {env : Env} (h : SimV K μ H σ env) : ∀ vs : List Nat, SimV K μ H (wipe σ vs) (wipeE env vs)
  | [] => h
  | v :: vs => by
    have ih := SimV.wipe h vs
    unfold L2.wipe wipeE
    refine ⟨by rw [List.length_set, List.length_set, ih.len], fun j e hj => ?_⟩
    by_cases hij : v = j
    · subst hij
      by_cases hl : v < (wipeE env vs).length
      · rw [List.getElem?_set_self hl] at hj
        cases hj
      · rw [List.getElem?_eq_none (by rw [List.length_set]; omega)] at hj
        cases hj
    · rw [List.getElem?_set_ne hij] at hj
      obtain ⟨w, h1, h2⟩ := ih.val j e hj
      exact ⟨w, by rw [List.getElem?_set_ne hij]; exact h1, h2⟩
noncomputable instance decOk (r : Src) (s : S) : Decidable (r.Ok s) := Classical.propDecidable _
/-- the walked list stands as it stood -/
noncomputable def guardM (r : Src) : M Unit := fun s => if r.Ok s then .ok () s else .stuck
noncomputable def collM (r : Src) (g : D → Env → M Env) (t : Env → M Bool) (e : Env → M D) (env0 : Env) : List D → M (List D)
  | [] => guardM r >>= fun _ => pure []
  | d :: ds => guardM r >>= fun _ => g d env0 >>= fun env => t env >>= fun b => if b then e env >>= fun y => collM r g t e env0 ds >>= fun ys => pure (y :: ys) else collM r g t e env0 ds
def szM (n : Nat) : M Unit := if n ≤ 100000 then pure () else stuck
/-- [e for g in r if t], vs: its own slots -/
noncomputable def compM (mi : Env → M Src) (g : D → Env → M Env) (t : Env → M Bool) (e : Env → M D) (vs : List Nat) (env : Env) : M D :=
  mi env >>= fun r => szM r.items.length >>= fun _ => collM r g t e (wipeE env vs) r.items >>= fun ys => allocC (.lst ys)
noncomputable def compF (mi : Env → M Src) (g : D → Env → M Env) (t : Env → M Bool) (e : Env → M D) (vs : List Nat) (env : Env) : M D :=
  mi env >>= fun r => szM r.items.length >>= fun _ => collM r g t e (wipeE env vs) r.items >>= fun ys => fun s => .ok (.vls ys) s
def yesT (_ : Env) : M Bool := pure true
def STs (X : Cx) (E : XK) (ifs : List Expr) (t : Env → M Bool) : Prop := PTs X ifs (TTof X.K E t)
theorem PTs.imp {X : Cx} {es : List Expr} {t t' : TT} (h : PTs X es t) (f : ∀ σ H Q, t' σ H Q → t σ H Q) : PTs X es t' := ⟨fun pins s σ H Q I q => h.run pins s σ H Q I (f σ H Q q)⟩
/-- another heap in which all that is named stands -/
structure Hq (μ : Mu) (H H' : Hp) : Prop where
  tup : ∀ a xs, H a = some (.tup xs) → H' a = some (.tup xs)
  frz : ∀ a o u, (∀ xs, u ≠ .dK xs) → H a = some (.frz o u) → H' a = some (.frz o u)
  vls : ∀ a xs, H a = some (.lst xs) → a ∉ μ.c → a ∉ μ.h → H' a = some (.lst xs)
mutual
theorem Rep.heap {K : PySem.W.Frag} {μ : Mu} {H H' : Hp} (k : Hq μ H H') : ∀ (d : D) (v : V), Rep K μ H v d → Rep K μ H' v d
  | .non, _, h => by cases h; exact .non
  | .bl b, _, h => by cases h; exact .bl b
  | .int i, _, h => by cases h; exact .int i
  | .str x, _, h => by cases h; exact .str x
  | .tup ds, _, h => by
    cases h with
    | tup hs hl =>
      refine .tup ?_ (RepL.heap k ds _ hl)
      rcases hs with (h | ⟨o, h⟩) | h
      · exact .inl (.inl (k.tup _ _ h))
      · exact .inl (.inr ⟨o, k.frz _ _ _ (fun _ z => nomatch z) h⟩)
      · exact .inr h
  | .flst ds, _, h => by
    cases h with
    | flst hs hl =>
      refine .flst ?_ (RepL.heap k ds _ hl)
      rcases hs with ⟨o, h⟩ | h
      · exact .inl ⟨o, k.frz _ _ _ (fun _ z => nomatch z) h⟩
      · exact .inr h
  | .vls ds, _, h => by
    cases h with
    | vls hs hl => exact .vls ⟨k.vls _ _ hs.at_ hs.nc hs.nh, hs.nc, hs.nh⟩ (RepL.heap k ds _ hl)
  | .ptr n, _, h => by
    cases h with
    | ptr e => exact .ptr e
theorem RepL.heap {K : PySem.W.Frag} {μ : Mu} {H H' : Hp} (k : Hq μ H H') : ∀ (ds : List D) (vs : List V), RepL K μ H vs ds → RepL K μ H' vs ds
  | [], _, h => by cases h; exact .nil
  | d :: ds, _, h => by
    cases h with
    | cons h1 h2 => exact .cons (Rep.heap k d _ h1) (RepL.heap k ds _ h2)
end
theorem CellOk.heap {K : PySem.W.Frag} {μ : Mu} {H H' : Hp} {a : Addr} {c : Cell} (k : Hq μ H H') (e : H' a = H a) (h : CellOk K μ H a c) : CellOk K μ H' a c := by
  cases c with
  | lst ds => obtain ⟨xs, q, r⟩ := h; exact ⟨xs, e.trans q, RepL.heap k _ _ r⟩
  | dK kvs => obtain ⟨xs, q, r⟩ := h; exact ⟨xs, e.trans q, r.1, RepL.heap k _ _ r.2⟩
  | dT kvs => obtain ⟨xs, q, r⟩ := h; exact ⟨xs, e.trans q, r.1, RepL.heap k _ _ r.2⟩
  | ins C fs => obtain ⟨c, dx, xs, hc, q, r⟩ := h; exact ⟨c, dx, xs, hc, e.trans q, r.1, RepL.heap k _ _ r.2⟩
  | fK kvs => obtain ⟨o, xs, q, r⟩ := h; exact ⟨o, xs, e.trans q, r.1, RepL.heap k _ _ r.2⟩
theorem hq_hid {μ : Mu} {H : Hp} {p : Addr} {xs ys : List V} (hp : p ∈ μ.h) (e : H p = some (.lst xs)) : Hq μ H (upd H p (.lst ys)) :=
  ⟨fun b zs q => by
    rw [upd_ne fun z => by rw [z, e] at q; cases q]
    exact q, fun b o u _ q => by
    rw [upd_ne fun z => by rw [z, e] at q; cases q]
    exact q, fun b zs q n1 n2 => by
    rw [upd_ne fun z => n2 (by rw [z]; exact hp)]
    exact q⟩
/-- a hidden list is written -/
theorem SimS.aside {K : PySem.W.Frag} {μ : Mu} {H : Hp} {s : S} {p : Addr} {xs ys : List V} (h : SimS K μ H s) (hp : p ∈ μ.h) (e : H p = some (.lst xs)) : SimS K μ (upd H p (.lst ys)) s :=
  ⟨h.len, h.nd, fun q hq z => h.hok q hq (upd_trk q z), h.dis, fun n c e0 => by
    obtain ⟨a, h1, h2⟩ := h.cell n c e0
    exact ⟨a, h1, h2.heap (hq_hid hp e) (upd_ne fun z => h.dis p hp (by rw [← z]; exact List.mem_of_getElem? h1))⟩⟩
section
variable {X : Cx} {E : XK}
theorem sts_nil : STs X E [] yesT := PTs.imp pts_nil (by
  rintro σ H Q ⟨μ, env, s, hv, hs, post⟩
  exact Post.now (a := true) post hs)
theorem sts_one {c : Expr} {t : Env → M Bool} (h : ST X E c t) : STs X E [c] t := pts_one h
theorem m_assoc {α β γ : Type} (m : M α) (f : α → M β) (g : β → M γ) : ((m >>= f) >>= g) = (m >>= fun a => f a >>= g) := by
  funext s
  rw [bind_run, bind_run, bind_run]
  cases m s with
  | stuck => rfl
  | exc c s' => rfl
  | ok a s' => exact (bind_run (f a) g s')
theorem m_congr {α β : Type} {m : M α} {f g : α → M β} (h : ∀ a, f a = g a) : (m >>= f) = (m >>= g) := by
  rw [show f = g from funext h]
theorem guard_ok {K : PySem.W.Frag} {α : Type} {r : Src} {f : Unit → M α} {s : S} {μ : Mu} {H : Hp} {q : α → S → Mu → Hp → Prop} (h : Post K E μ H ((guardM r >>= f) s) q) : r.Ok s ∧ Post K E μ H (f () s) q := by
  rw [bind_run] at h
  unfold guardM at h
  by_cases ok : r.Ok s
  · rw [if_pos ok] at h
    exact ⟨ok, h⟩
  · rw [if_neg ok] at h
    exact h.elim
theorem m_pure {α β : Type} (a : α) (f : α → M β) : ((Pure.pure a : M α) >>= f) = f a := rfl
theorem Post.bindB {α β : Type} {K : PySem.W.Frag} {μ μ1 : Mu} {H H1 : Hp} {m : M α} {f : α → M β} {s : S} {q : β → S → Mu → Hp → Prop} (h : Post K E μ H ((m >>= f) s) q) (g : Grow μ H μ1 H1) : Post K E μ1 H1 (m s) (fun a s1 _ _ => Post K E μ H (f a s1) q) := by
  rw [bind_run] at h
  cases e : m s with
  | stuck => rw [e] at h; exact h
  | ok a s' =>
    rw [e] at h
    exact fun _ _ _ _ => h
  | exc c s' => rw [e] at h; exact Post.later (α := α) (r := .exc c s') (q := fun _ _ _ _ => True) g h
/-- the loop of a comprehension; fin: what becomes of the list -/
theorem lc_ok {K : PySem.W.Frag} {r : Src} {J : It} {g : D → Env → M Env} {gt : TG} {t : Env → M Bool} {e : Env → M D} {fin : List D → M D} {σ : L2.St} {env : Env} {vs : List Nat} {μ : Mu} {H1 : Hp} {s1 : S} {Q : VK} {Dl : Addr}
    (hv : SimV K μ H1 σ env) (hs : SimS K μ H1 s1) (hJ : GoodIt K μ H1 J r) (hlen : r.items.length ≤ 100000) (hDn : H1 Dl = none)
    (hg : ∀ v H Qg, TGof K E g v (wipe σ vs) H Qg → gt v (wipe σ vs) H fun σ2 H2 => wipe σ2 vs = wipe σ vs ∧ Qg σ2 H2)
    (hfin : ∀ (c u : List Addr) (H : Hp) (s : S) (acc : List D) (xs : List V), Grow μ H1 ⟨c, u ++ μ.h⟩ H → Dl ∉ u ++ μ.h → SimS K ⟨c, u ++ Dl :: μ.h⟩ H s → H Dl = some (.lst xs) → RepL K ⟨c, u ++ Dl :: μ.h⟩ H xs acc → Post K E μ H1 (fin acc s) (okD K Q) → Q (.ref Dl) H)
    (post : Post K E μ H1 ((collM r g t e (wipeE env vs) r.items >>= fin) s1) (okD K Q)) :
    ∃ W : Nat → Nat → Hp → Prop, (∃ m, W 0 m (upd H1 Dl (.lst []))) ∧ ∀ i m H, W i m H →
      (J.stop i H ∧ Q (.ref Dl) H) ∨ (J.go i H ∧ ∃ Nx : Hp → Prop, (∀ H', Nx H' → ∃ m', m' < m ∧ W (i + 1) m' H') ∧ ∀ x H', J.yld i H x H' → gt x (wipe σ vs) H' fun σ2 H2 => wipe σ2 vs = wipe σ vs ∧ TTof K E t σ2 H2 fun b H3 =>
        if b = true then TEof K E e σ2 H3 fun y H4 => ∃ acc, H4 Dl = some (.lst acc) ∧ acc.length < sizeLine ∧ Nx (upd H4 Dl (.lst (acc ++ [y]))) else Nx H3) := by
  have nD := hs.new hDn
  -- what is known while the list is made
  let Up : Mu → Hp → Prop := fun μ' H => Grow μ H1 μ' H ∧ ∃ u, μ'.h = u ++ Dl :: μ.h ∧ Dl ∉ u ∧ ∀ p ∈ u, H1 p = none
  have inh : ∀ {μ' : Mu} {H : Hp}, Up μ' H → Dl ∈ μ'.h := fun ⟨_, u, hu, _⟩ => by
    rw [hu]
    exact List.mem_append_right _ List.mem_cons_self
  have up : ∀ {μ1 μ2 : Mu} {Ha Hb : Hp} {xs : List V} {sb : S}, Up μ1 Ha → Grow μ1 Ha μ2 Hb → SimS K μ2 Hb sb → Ha Dl = some (.lst xs) → Up μ2 Hb ∧ Hb Dl = some (.lst xs) := fun {μ1 μ2 Ha Hb xs sb} U g2 hb h => by
    have h1 := inh U
    obtain ⟨g1, u, hu, nu, ku⟩ := U
    obtain ⟨v, hv2, kv⟩ := g2.hid
    refine ⟨⟨g1.trans g2, v ++ u, by rw [hv2, hu, List.append_assoc], fun z => ?_, fun p hp => ?_⟩, g2.frm Dl _ h (hb.dis Dl (by rw [hv2]; exact List.mem_append_right _ h1))⟩
    · rcases List.mem_append.mp z with z | z
      · have := kv Dl z
        rw [h] at this
        cases this
      · exact nu z
    · rcases List.mem_append.mp hp with hp | hp
      · exact g1.trk p (kv p hp)
      · exact ku p hp
  have bump : ∀ {μ' : Mu} {H : Hp} {xs ys : List V}, Up μ' H → H Dl = some (.lst xs) → Up μ' (upd H Dl (.lst ys)) := fun {μ' H xs ys} U h => by
    obtain ⟨g1, r⟩ := U
    refine ⟨?_, r⟩
    have ne : ∀ {a : Addr} {o : HO}, H1 a = some o → a ≠ Dl := fun {a o} h1 z => by
      rw [z, hDn] at h1
      cases h1
    exact ⟨g1.pre, g1.hid, fun a o h1 => by rw [upd_ne (ne h1)]; exact g1.tup a o h1, fun a o u h1 => by rw [upd_ne (ne h1)]; exact g1.frz a o u h1, fun a o h1 n => by rw [upd_ne (ne h1)]; exact g1.frm a o h1 n, g1.new, fun a h1 => g1.trk a (upd_trk a h1)⟩
  -- what holds at a turn
  let Tn : Nat → Hp → Prop := fun i H => ∃ μ' s' acc xs, Up μ' H ∧ SimS K μ' H s' ∧ H Dl = some (.lst xs) ∧ RepL K μ' H xs acc ∧ acc.length ≤ i ∧ i ≤ r.items.length ∧
    Post K E μ H1 ((collM r g t e (wipeE env vs) (r.items.drop i) >>= fun ys => fin (acc ++ ys)) s') (okD K Q)
  have post0 : Post K E μ H1 ((collM r g t e (wipeE env vs) (r.items.drop 0) >>= fun ys => fin ([] ++ ys)) s1) (okD K Q) := post
  refine ⟨fun i m H => m = r.items.length - i ∧ Tn i H, ⟨r.items.length - 0, rfl, μ.hide Dl, s1, [], [], ⟨grow_hide hDn, [], rfl, List.not_mem_nil, fun _ h => nomatch h⟩, hs.hide hDn, upd_same, .nil, Nat.le_refl _, Nat.zero_le _, post0⟩, ?_⟩
  rintro i m H ⟨rfl, μ', s', acc, xs, U1, hs', hD, hacc, hli, hile, p⟩
  by_cases hi : i < r.items.length
  · right
    obtain ⟨d, hd⟩ : ∃ d, r.items[i]? = some d := ⟨_, List.getElem?_eq_getElem hi⟩
    have ed : r.items.drop i = d :: r.items.drop (i + 1) := by
      rw [List.drop_eq_getElem_cons hi]
      rw [List.getElem?_eq_getElem hi] at hd
      cases hd
      rfl
    rw [ed] at p
    have e1 : (collM r g t e (wipeE env vs) (d :: r.items.drop (i + 1)) >>= fun ys => fin (acc ++ ys)) = (guardM r >>= fun _ => g d (wipeE env vs) >>= fun env2 => t env2 >>= fun b => if b then e env2 >>= fun y => collM r g t e (wipeE env vs) (r.items.drop (i + 1)) >>= fun ys => fin (acc ++ (y :: ys)) else (collM r g t e (wipeE env vs) (r.items.drop (i + 1)) >>= fun ys => fin (acc ++ ys))) := by
      show ((guardM r >>= fun _ => g d (wipeE env vs) >>= fun env2 => t env2 >>= fun b => if b then e env2 >>= fun y => collM r g t e (wipeE env vs) (r.items.drop (i + 1)) >>= fun ys => (Pure.pure (y :: ys) : M (List D)) else collM r g t e (wipeE env vs) (r.items.drop (i + 1))) >>= fun ys => fin (acc ++ ys)) = _
      rw [m_assoc]
      refine m_congr fun _ => ?_
      rw [m_assoc]
      refine m_congr fun env2 => ?_
      rw [m_assoc]
      refine m_congr fun b => ?_
      cases b with
      | true =>
        show ((e env2 >>= fun y => collM r g t e (wipeE env vs) (r.items.drop (i + 1)) >>= fun ys => (Pure.pure (y :: ys) : M (List D))) >>= _) = (e env2 >>= fun y => collM r g t e (wipeE env vs) (r.items.drop (i + 1)) >>= fun ys => fin (acc ++ (y :: ys)))
        rw [m_assoc]
        refine m_congr fun y => ?_
        rw [m_assoc]
        exact m_congr fun ys => rfl
      | false => rfl
    rw [e1] at p
    obtain ⟨ok, p2⟩ := guard_ok p
    clear p e1
    obtain ⟨go, yl⟩ := (hJ μ' H s' U1.1.w hs' ok).1 i d hd
    refine ⟨go, fun H' => Tn (i + 1) H', fun H' q => ⟨r.items.length - (i + 1), by omega, rfl, q⟩, fun x H' y => ?_⟩
    obtain ⟨g2, hs2, rx⟩ := yl x H' y
    obtain ⟨U2, hD2⟩ := up U1 g2 hs2 hD
    refine hg x H' _ ⟨μ', wipeE env vs, s', d, (hv.grow U2.1).wipe vs, hs2, rx, (Post.bindB p2 U2.1).mono fun env2 s2 μ3 H3 g3 hs3 p3 σ2 hv2 => ?_⟩
    obtain ⟨U3, hD3⟩ := up U2 g3 hs3 hD2
    refine ⟨μ3, env2, s2, hv2, hs3, (Post.bindB p3 U3.1).mono fun b s4 μ4 H4 g4 hs4 p4 => ?_⟩
    obtain ⟨U4, hD4⟩ := up U3 g4 hs4 hD3
    show if b = true then _ else _
    cases b with
    | false => exact ⟨μ4, s4, acc, xs, U4, hs4, hD4, RepL.grow (g2.trans (g3.trans g4)) _ _ hacc, by omega, hi, p4⟩
    | true =>
      refine ⟨μ4, env2, s4, hv2.grow g4, hs4, (Post.bindB p4 U4.1).mono fun y s5 μ5 H5 g5 hs5 p5 v hy => ?_⟩
      obtain ⟨U5, hD5⟩ := up U4 g5 hs5 hD4
      have hacc5 := RepL.grow (g2.trans (g3.trans (g4.trans g5))) _ _ hacc
      refine ⟨xs, hD5, Nat.lt_of_le_of_lt (Nat.le_trans (by rw [hacc5.length]; omega) hlen) (by decide), μ5, s5, acc ++ [y], xs ++ [v], bump U5 hD5, hs5.aside (inh U5) hD5, upd_same, ?_, by rw [List.length_append, List.length_singleton]; omega, hi, ?_⟩
      · exact RepL.heap (hq_hid (inh U5) hD5) _ _ (hacc5.append (.cons hy .nil))
      · refine cast ?_ p5
        congr 1
        refine congrArg (fun z : M D => z s5) (m_congr fun ys => ?_)
        rw [List.append_assoc]
        rfl
  · left
    have ei : i = r.items.length := by omega
    subst ei
    rw [List.drop_length] at p
    have e1 : (collM r g t e (wipeE env vs) [] >>= fun ys => fin (acc ++ ys)) = (guardM r >>= fun _ => fin acc) := by
      show ((guardM r >>= fun _ => (Pure.pure [] : M (List D))) >>= fun ys => fin (acc ++ ys)) = _
      rw [m_assoc]
      refine m_congr fun _ => ?_
      show fin (acc ++ []) = _
      rw [List.append_nil]
    rw [e1] at p
    obtain ⟨ok, p2⟩ := guard_ok p
    refine ⟨(hJ μ' H s' U1.1.w hs' ok).2, ?_⟩
    obtain ⟨g1, u, hu, nu, ku⟩ := U1
    obtain ⟨c, h⟩ := μ'
    simp only [] at hu
    subst hu
    refine hfin c u H s' acc xs ⟨g1.pre, ⟨u, rfl, ku⟩, g1.tup, g1.frz, g1.frm, g1.new, g1.trk⟩ (fun z => ?_) hs' hD hacc p2
    rcases List.mem_append.mp z with z | z
    · exact nu z
    · exact nD.2 z
/-- .. it is a cell -/
theorem fin_ptr {K : PySem.W.Frag} {μ : Mu} {H1 : Hp} {Q : VK} {Dl : Addr} (hDn : H1 Dl = none) : ∀ (c u : List Addr) (H : Hp) (s : S) (acc : List D) (xs : List V), Grow μ H1 ⟨c, u ++ μ.h⟩ H → Dl ∉ u ++ μ.h → SimS K ⟨c, u ++ Dl :: μ.h⟩ H s → H Dl = some (.lst xs) → RepL K ⟨c, u ++ Dl :: μ.h⟩ H xs acc → Post K E μ H1 (allocC (.lst acc) s) (okD K Q) → Q (.ref Dl) H := fun c u H s acc xs g nd hs hD hacc p => by
  have hs2 : SimS K ⟨c ++ [Dl], u ++ μ.h⟩ H (s ++ [.lst acc]) := hs.join nd ⟨xs, hD, RepL.sh sh_join _ _ hacc⟩
  have g2 : Grow μ H1 ⟨c ++ [Dl], u ++ μ.h⟩ H := by
    obtain ⟨⟨t, ht⟩, a1, a2, a3, a4, a5, a6⟩ := g
    refine ⟨⟨t ++ [Dl], by show c ++ [Dl] = _; rw [show c = μ.c ++ t from ht, List.append_assoc]⟩, a1, a2, a3, fun a o h n => a4 a o h fun z => n (List.mem_append_left _ z), fun a h => ?_, a6⟩
    rcases List.mem_append.mp h with h | h
    · exact a5 a h
    · rw [List.mem_singleton] at h
      rw [h]
      exact .inr hDn
  refine p _ H g2 hs2 (.ref Dl) (.ptr ?_)
  have e1 : c.length = s.length := hs.len
  show (c ++ [Dl])[s.length]? = _
  rw [← e1, List.getElem?_append_right (Nat.le_refl _)]
  simp
/-- .. nobody writes it any more -/
theorem fin_vls {K : PySem.W.Frag} {μ : Mu} {H1 : Hp} {Q : VK} {Dl : Addr} : ∀ (c u : List Addr) (H : Hp) (s : S) (acc : List D) (xs : List V), Grow μ H1 ⟨c, u ++ μ.h⟩ H → Dl ∉ u ++ μ.h → SimS K ⟨c, u ++ Dl :: μ.h⟩ H s → H Dl = some (.lst xs) → RepL K ⟨c, u ++ Dl :: μ.h⟩ H xs acc → Post K E μ H1 (.ok (.vls acc) s) (okD K Q) → Q (.ref Dl) H := fun c u H s acc xs g nd hs hD hacc p =>
  p _ H g hs.open (.ref Dl) (.vls ⟨hD, hs.dis Dl (by simp), nd⟩ (RepL.sh sh_open _ _ hacc))
end
end PL

/-! PL5: comprehensions' rules, statements, loops, a def's promise. -/
namespace PL
open PySem PySem.Spec PyProof.Rows L2

theorem wipe_get (σ : L2.St) (j : Nat) : ∀ vs : List Nat, (wipe σ vs)[j]? = if j ∈ vs then (σ[j]?).map (fun _ => none) else σ[j]?
  | [] => by
    rw [if_neg List.not_mem_nil]
    rfl
  | v :: vs => by
    have ih := wipe_get σ j vs
    show ((wipe σ vs).set v none)[j]? = _
    by_cases hv : v = j
    · subst hv
      rw [if_pos List.mem_cons_self]
      by_cases hl : v < (wipe σ vs).length
      · rw [List.getElem?_set_self hl]
        rw [wipe_length] at hl
        rw [List.getElem?_eq_getElem hl]
        rfl
      · rw [List.getElem?_eq_none (by rw [List.length_set]; omega)]
        rw [wipe_length] at hl
        rw [List.getElem?_eq_none (by omega)]
        rfl
    · rw [List.getElem?_set_ne hv, ih]
      have e : (j ∈ v :: vs) = (j ∈ vs) := by
        rw [List.mem_cons]
        exact propext ⟨fun h => h.elim (fun z => absurd z.symm hv) id, .inr⟩
      simp only [e]
theorem wipe_same {σ σ2 : L2.St} {vs : List Nat} (hl : σ2.length = σ.length) (h : ∀ j, j ∉ vs → σ2[j]? = σ[j]?) : wipe σ2 vs = wipe σ vs := by
  refine List.ext_getElem? fun j => ?_
  rw [wipe_get, wipe_get]
  by_cases hj : j ∈ vs
  · rw [if_pos hj, if_pos hj]
    by_cases h1 : j < σ.length
    · rw [List.getElem?_eq_getElem h1, List.getElem?_eq_getElem (by omega)]
      rfl
    · rw [List.getElem?_eq_none (by omega), List.getElem?_eq_none (by omega)]
  · rw [if_neg hj, if_neg hj, h j hj]
section
variable {X : Cx} {E : XK} {elt tg iter : Expr} {ifs : List Expr} {scope : Scope} {pos : Pos} {mi : Env → M Src} {t : Env → M Bool} {e : Env → M D}
/-- the slots that a target stores to -/
def GtOk (K : PySem.W.Frag) (E : XK) (g : D → Env → M Env) (gt : TG) (vs : List Nat) : Prop := ∀ v σ H Qg, TGof K E g v (wipe σ vs) H Qg → gt v (wipe σ vs) H fun σ2 H2 => wipe σ2 vs = wipe σ vs ∧ Qg σ2 H2
theorem te_comp {K : PySem.W.Frag} {g : D → Env → M Env} {gt : TG} {vs : List Nat} (hg : GtOk K E g gt vs) : ∀ σ H Q, TEof K E (compM mi g t e vs) σ H Q → tLc (TIof K E mi) gt (TTof K E t) (TEof K E e) vs σ H Q := by
  rintro σ H Q ⟨μ, env, s, hv, hs, post⟩
  refine ⟨μ, env, s, hv, hs, (Post.bind post).mono fun r s1 μ1 H1 g1 hs1 p1 J hJ Dl hD => ?_⟩
  by_cases hl : r.items.length ≤ 100000
  · have e1 : szM r.items.length = (Pure.pure () : M Unit) := if_pos hl
    rw [e1] at p1
    exact lc_ok (hv.grow g1) hs1 hJ hl hD (fun v H Qg => hg v σ H Qg) (fin_ptr hD) p1
  · have e1 : szM r.items.length = (stuck : M Unit) := if_neg hl
    rw [e1] at p1
    exact (show False from p1).elim
theorem te_compF {K : PySem.W.Frag} {g : D → Env → M Env} {gt : TG} {vs : List Nat} (hg : GtOk K E g gt vs) : ∀ σ H Q, TEof K E (compF mi g t e vs) σ H Q → tLc (TIof K E mi) gt (TTof K E t) (TEof K E e) vs σ H Q := by
  rintro σ H Q ⟨μ, env, s, hv, hs, post⟩
  refine ⟨μ, env, s, hv, hs, (Post.bind post).mono fun r s1 μ1 H1 g1 hs1 p1 J hJ Dl hD => ?_⟩
  by_cases hl : r.items.length ≤ 100000
  · have e1 : szM r.items.length = (Pure.pure () : M Unit) := if_pos hl
    rw [e1] at p1
    exact lc_ok (hv.grow g1) hs1 hJ hl hD (fun v H Qg => hg v σ H Qg) fin_vls p1
  · have e1 : szM r.items.length = (stuck : M Unit) := if_neg hl
    rw [e1] at p1
    exact (show False from p1).elim
theorem gt_name {K : PySem.W.Frag} {i : Nat} {vs : List Nat} (hi : i ∈ vs) : GtOk K E (gNm i) (gName i) vs := by
  rintro v σ H Qg ⟨μ, env, s, d, hv, hs, r, post⟩
  refine ⟨?_, Post.now (a := env.set i (some d)) post hs _ (hv.set r i)⟩
  have e1 : wipe ((wipe σ vs).set i (some v)) vs = wipe (wipe σ vs) vs := wipe_same (by rw [List.length_set]) fun j hj => by
    rw [List.getElem?_set_ne (show i ≠ j from fun z => hj (z ▸ hi))]
  rw [e1]
  refine List.ext_getElem? fun j => ?_
  rw [wipe_get, wipe_get]
  by_cases hj : j ∈ vs
  · rw [if_pos hj, if_pos hj, Option.map_map]
    rfl
  · rw [if_neg hj, if_neg hj]
theorem wipe_wipe (σ : L2.St) (vs : List Nat) : wipe (wipe σ vs) vs = wipe σ vs := by
  refine List.ext_getElem? fun j => ?_
  rw [wipe_get, wipe_get]
  by_cases hj : j ∈ vs
  · rw [if_pos hj, if_pos hj, Option.map_map]
    rfl
  · rw [if_neg hj, if_neg hj]
theorem gt_two {K : PySem.W.Frag} {i j : Nat} {vs : List Nat} (hi : i ∈ vs) (hj : j ∈ vs) : GtOk K E (gTupM 2 (gConsM (gNm i) (gConsM (gNm j) gNilM))) (gTup K 2 (gCons (gName i) (gCons (gName j) gNil))) vs := by
  rintro v σ H Qg ⟨μ, env, s, d, hv, hs, r, post⟩
  cases r with
  | @tup a xs ds ht hl =>
    cases hl with
    | nil => exact (show False from post).elim
    | @cons x xs d ds r1 l1 =>
      cases l1 with
      | nil => exact (show False from post).elim
      | @cons y ys e es r2 l2 =>
        cases l2 with
        | nil =>
          refine ⟨a, [x, y], rfl, ht, rfl, x, [y], rfl, y, [], rfl, rfl, ?_, Post.now (a := (env.set i (some d)).set j (some e)) post hs _ ((hv.set r1 i).set r2 j)⟩
          refine (wipe_same (σ := wipe σ vs) (by rw [List.length_set, List.length_set]) fun k hk => ?_).trans (wipe_wipe σ vs)
          rw [List.getElem?_set_ne (show j ≠ k from fun z => hk (z ▸ hj)), List.getElem?_set_ne (show i ≠ k from fun z => hk (z ▸ hi))]
        | cons r3 l3 => exact (show False from post).elim
  | _ => exact (show False from post).elim
theorem se_comp {g : D → Env → M Env} {gt : TG} {own : List (Str × Nat)} (hc : X.calm = true) (hN : X.N.Nodup) (hi : SI X E tg iter mi) (ok : BlkOk X.N X.env.scope scope own) (hgt : GtOk X.K E g gt (own.map (·.2)))
    (hg : ∀ (s : Shared) (H : Hp) (C : Addr) (cl : List (Str × Addr)) (fp : List Addr), PG (X.blk s H scope (compEnvC scope cl C X.env) fp) tg gt) (ht : ∀ (s : Shared) (H : Hp) (C : Addr) (cl : List (Str × Addr)) (fp : List Addr), STs (X.blk s H scope (compEnvC scope cl C X.env) fp) E ifs t)
    (he : ∀ (s : Shared) (H : Hp) (C : Addr) (cl : List (Str × Addr)) (fp : List Addr), SE (X.blk s H scope (compEnvC scope cl C X.env) fp) E elt e) (hs : ∀ x, foldedSetIterable iter X.env x = pure x := by intro _; rfl) :
    SE X E (.ListComp elt [⟨tg, iter, ifs, 0⟩] scope pos) (compM mi g t e (own.map (·.2))) := PE.imp (pe_lc (tt := TTof X.K E t) (te := TEof X.K E e) hc hN hi ok hg ht he hs) (te_comp hgt)
theorem se_compF {g : D → Env → M Env} {gt : TG} {own : List (Str × Nat)} (hc : X.calm = true) (hN : X.N.Nodup) (hi : SI X E tg iter mi) (ok : BlkOk X.N X.env.scope scope own) (hgt : GtOk X.K E g gt (own.map (·.2)))
    (hg : ∀ (s : Shared) (H : Hp) (C : Addr) (cl : List (Str × Addr)) (fp : List Addr), PG (X.blk s H scope (compEnvC scope cl C X.env) fp) tg gt) (ht : ∀ (s : Shared) (H : Hp) (C : Addr) (cl : List (Str × Addr)) (fp : List Addr), STs (X.blk s H scope (compEnvC scope cl C X.env) fp) E ifs t)
    (he : ∀ (s : Shared) (H : Hp) (C : Addr) (cl : List (Str × Addr)) (fp : List Addr), SE (X.blk s H scope (compEnvC scope cl C X.env) fp) E elt e) (hs : ∀ x, foldedSetIterable iter X.env x = pure x := by intro _; rfl) :
    SE X E (.ListComp elt [⟨tg, iter, ifs, 0⟩] scope pos) (compF mi g t e (own.map (·.2))) := PE.imp (pe_lc (tt := TTof X.K E t) (te := TEof X.K E e) hc hN hi ok hg ht he hs) (te_compF hgt)
end

/-! ### statements -/
def nxS (env : Env) : M Out := pure (.nx env)
def seqS (m n : Env → M Out) (env : Env) : M Out := m env >>= fun o => match o with
  | .nx env' => n env'
  | o => pure o
def asgS (me : Env → M D) (g : D → Env → M Env) (env : Env) : M Out := me env >>= fun d => g d env >>= fun env' => pure (.nx env')
def setS (i : Nat) (me : Env → M D) (env : Env) : M Out := me env >>= fun d => pure (.nx (env.set i (some d)))
def dropS (me : Env → M D) (env : Env) : M Out := me env >>= fun _ => pure (.nx env)
def retS (me : Env → M D) (env : Env) : M Out := me env >>= fun d => pure (.rt d)
def retNS (_ : Env) : M Out := pure (.rt .non)
def brkS (env : Env) : M Out := pure (.bk env)
def contS (env : Env) : M Out := pure (.ct env)
def ifS (c : Env → M Bool) (m n : Env → M Out) (env : Env) : M Out := c env >>= fun b => if b then m env else n env
def parS (i j : Nat) (ma mb : Env → M D) (env : Env) : M Out := ma env >>= fun a => mb env >>= fun b => pure (.nx ((env.set i (some a)).set j (some b)))
def augS (i : Nat) (f : D → D → M D) (me : Env → M D) (env : Env) : M Out := varM i env >>= fun x => me env >>= fun y => f x y >>= fun z => pure (.nx (env.set i (some z)))
noncomputable def loopM (r : Src) (g : D → Env → M Env) (b : Env → M Out) : List D → Env → M Out
  | [], env => guardM r >>= fun _ => pure (.nx env)
  | d :: ds, env => guardM r >>= fun _ => g d env >>= fun env1 => b env1 >>= fun o => match o with
    | .nx env2 => loopM r g b ds env2
    | .ct env2 => loopM r g b ds env2
    | .bk env2 => pure (.nx env2)
    | .rt d => pure (.rt d)
noncomputable def forS (mi : Env → M Src) (g : D → Env → M Env) (b : Env → M Out) (env : Env) : M Out := mi env >>= fun r => loopM r g b r.items env
def whileN (c : Env → M Bool) (b : Env → M Out) : Nat → Env → M Out
  | 0, _ => stuck
  | k + 1, env => c env >>= fun t => if t then (b env >>= fun o => match o with
    | .nx env2 => whileN c b k env2
    | .ct env2 => whileN c b k env2
    | .bk env2 => pure (.nx env2)
    | .rt d => pure (.rt d)) else pure (.nx env)
open Classical in
noncomputable def whileS (c : Env → M Bool) (b : Env → M Out) (env : Env) : M Out := fun s => if h : ∃ k, whileN c b k env s ≠ .stuck then whileN c b (Classical.choose h) env s else .stuck
section
variable {X : Cx} {E : XK} {e a b tg : Expr} {ma mb me : Env → M D} {pos p : Pos} {m n : Env → M Out} {st : Stmt} {sts : List Stmt} {c : Expr} {mc : Env → M Bool}
theorem okO_next {K : PySem.W.Frag} {μ : Mu} {H : Hp} {s : S} {env : Env} {σ : L2.St} {Dd : Ends} (hs : SimS K μ H s) (hv : SimV K μ H σ env) (post : Post K E μ H (.ok (.nx env) s) (okO K Dd)) : Dd.nx σ H := Post.now post hs σ hv
theorem sss_nil : SSs X E [] nxS := PSs.imp pss_nil (by
  rintro Dd σ H ⟨μ, env, s, hv, hs, post⟩
  exact okO_next hs hv post)
theorem ts_seq {K : PySem.W.Frag} : ∀ Dd σ H, TSof K E (seqS m n) Dd σ H → tSeq (TSof K E m) (TSof K E n) Dd σ H := by
  rintro Dd σ H ⟨μ, env, s, hv, hs, post⟩
  refine ⟨μ, env, s, hv, hs, (Post.bind post).mono fun o s1 μ1 H1 g1 hs1 p1 => ?_⟩
  cases o with
  | nx env1 => exact fun σ1 hv1 => ⟨μ1, env1, s1, hv1, hs1, p1⟩
  | rt d => exact Post.now (E := E) (a := Out.rt d) p1 hs1
  | bk env1 => exact Post.now (E := E) (a := Out.bk env1) p1 hs1
  | ct env1 => exact Post.now (E := E) (a := Out.ct env1) p1 hs1
theorem sss_cons (h1 : SS X E st m) (h2 : SSs X E sts n) : SSs X E (st :: sts) (seqS m n) := PSs.imp (pss_cons h1 h2) ts_seq
theorem sss_one (h1 : SS X E st m) : SSs X E [st] m := pss_one h1
theorem ss_pass : SS X E (.Pass pos) nxS := PS.imp ps_pass (by
  rintro Dd σ H ⟨μ, env, s, hv, hs, post⟩
  exact okO_next hs hv post)
theorem ss_break : SS X E (.Break pos) brkS := PS.imp ps_break (by
  rintro Dd σ H ⟨μ, env, s, hv, hs, post⟩
  exact Post.now (E := E) (a := Out.bk env) post hs σ hv)
theorem ss_continue : SS X E (.Continue pos) contS := PS.imp ps_continue (by
  rintro Dd σ H ⟨μ, env, s, hv, hs, post⟩
  exact Post.now (E := E) (a := Out.ct env) post hs σ hv)
theorem ss_expr (he : SE X E e me) (hs : swapsWith e none pos.line X.env = pure false := by rfl) : SS X E (.Expr e pos) (dropS me) := PS.imp (ps_expr he hs) (by
  rintro Dd σ H ⟨μ, env, s, hv, hs, post⟩
  exact ⟨μ, env, s, hv, hs, (Post.bind post).mono fun d s1 μ1 H1 g1 hs1 p1 v hr => okO_next hs1 (hv.grow g1) p1⟩)
theorem ss_ret (he : SE X E e me) : SS X E (.Return (some e) pos) (retS me) := PS.imp (ps_ret he) (by
  rintro Dd σ H ⟨μ, env, s, hv, hs, post⟩
  exact ⟨μ, env, s, hv, hs, (Post.bind post).mono fun d s1 μ1 H1 g1 hs1 p1 v hr => Post.now (E := E) (a := Out.rt d) p1 hs1 v hr⟩)
theorem ss_retN : SS X E (.Return none pos) retNS := PS.imp ps_retN (by
  rintro Dd σ H ⟨μ, env, s, hv, hs, post⟩
  exact Post.now (E := E) (a := Out.rt .non) post hs .non .non)
theorem ss_if {A B : List Stmt} (hc : ST X E c mc) (ha : SSs X E A m) (hb : SSs X E B n) : SS X E (.If c A B pos) (ifS mc m n) := PS.imp (ps_if hc ha hb) (by
  rintro Dd σ H ⟨μ, env, s, hv, hs, post⟩
  refine ⟨μ, env, s, hv, hs, (Post.bind post).mono fun k s1 μ1 H1 g1 hs1 p1 => ?_⟩
  show if k = true then _ else _
  cases k with
  | true => exact ⟨μ1, env, s1, hv.grow g1, hs1, p1⟩
  | false => exact ⟨μ1, env, s1, hv.grow g1, hs1, p1⟩)
theorem ts_asg {K : PySem.W.Frag} {g : D → Env → M Env} : ∀ Dd σ H, TSof K E (asgS me g) Dd σ H → tAsg (TEof K E me) (TGof K E g) Dd σ H := by
  rintro Dd σ H ⟨μ, env, s, hv, hs, post⟩
  refine ⟨μ, env, s, hv, hs, (Post.bind post).mono fun d s1 μ1 H1 g1 hs1 p1 v hr => ?_⟩
  exact ⟨μ1, env, s1, d, hv.grow g1, hs1, hr, (Post.bind p1).mono fun env2 s2 μ2 H2 g2 hs2 p2 σ2 hv2 => okO_next hs2 hv2 p2⟩
theorem ss_asg {g : D → Env → M Env} (he : SE X E e me) (hg : SG X E tg g) (hs : swapsWithSole [tg] e pos.line X.env = pure false := by rfl) (hw : swappedStores [tg] e X.env = pure none := by rfl) (h1 : (assignEach [tg] X.env).map (·.2) = [assign tg X.env] := by rfl) : SS X E (.Assign [tg] e pos) (asgS me g) := PS.imp (ps_asg he hg hs hw h1) ts_asg
theorem ts_set {K : PySem.W.Frag} {i : Nat} {t : TE} (ht : ∀ σ H Q, TEof K E me σ H Q → t σ H Q) : ∀ Dd σ H, TSof K E (setS i me) Dd σ H → tAsg t (gName i) Dd σ H := by
  rintro Dd σ H ⟨μ, env, s, hv, hs, post⟩
  exact ht _ _ _ ⟨μ, env, s, hv, hs, (Post.bind post).mono fun d s1 μ1 H1 g1 hs1 p1 v hr => okO_next hs1 ((hv.grow g1).set hr i) p1⟩
theorem ss_set (i : Nat) {x : Str} {pos' : Pos} (hN : X.N.Nodup) (he : SE X E e me) (hi : X.N[i]? = some x := by rfl) (hx : Loc X.env.scope x := by first | exact Or.inl rfl | exact Or.inr rfl) (hs : swapsWith e (some (.Name x pos')) pos.line X.env = pure false := by rfl) (hf : X.fn x = true ∨ X.env.scope.names.lookup x = some .local := by first | exact .inl rfl | exact .inr rfl | assumption) :
    SS X E (.Assign [.Name x pos'] e pos) (setS i me) := PS.imp (ps_set hN hi hx he hs hf) (ts_set fun _ _ _ h => h)
theorem ss_setComp {elt iter : Expr} {ifs : List Expr} {scope : Scope} {mi : Env → M Src} {t : Env → M Bool} {ee : Env → M D} (i : Nat) {y : Str} {py spos : Pos} {g : D → Env → M Env} {gt : TG} {own : List (Str × Nat)} (hc : X.calm = true) (hN : X.N.Nodup) (hi : SI X E tg iter mi) (ok : BlkOk X.N X.env.scope scope own) (hgt : GtOk X.K E g gt (own.map (·.2)))
    (hg : ∀ (s : Shared) (H : Hp) (C : Addr) (cl : List (Str × Addr)) (fp : List Addr), PG (X.blk s H scope (compEnvC scope cl C X.env) fp) tg gt) (ht : ∀ (s : Shared) (H : Hp) (C : Addr) (cl : List (Str × Addr)) (fp : List Addr), STs (X.blk s H scope (compEnvC scope cl C X.env) fp) E ifs t)
    (he : ∀ (s : Shared) (H : Hp) (C : Addr) (cl : List (Str × Addr)) (fp : List Addr), SE (X.blk s H scope (compEnvC scope cl C X.env) fp) E elt ee) (hy : X.N[i]? = some y := by rfl) (hyl : X.env.scope.names.lookup y = some .local := by rfl)
    (hsw : swapsWith (.ListComp elt [⟨tg, iter, ifs, 0⟩] scope pos) (some (.Name y py)) spos.line X.env = pure true := by exact sw_true rfl rfl rfl (by decide +kernel)) (hs : ∀ x, foldedSetIterable iter X.env x = pure x := by intro _; rfl) :
    SS X E (.Assign [.Name y py] (.ListComp elt [⟨tg, iter, ifs, 0⟩] scope pos) spos) (setS i (compM mi g t ee (own.map (·.2)))) := PS.imp (ps_setLc (tt := TTof X.K E t) (te := TEof X.K E ee) hc hN hy hyl hsw hi ok hg ht he hs) (ts_set (te_comp hgt))
theorem ss_setCompF {elt iter : Expr} {ifs : List Expr} {scope : Scope} {mi : Env → M Src} {t : Env → M Bool} {ee : Env → M D} (i : Nat) {y : Str} {py spos : Pos} {g : D → Env → M Env} {gt : TG} {own : List (Str × Nat)} (hc : X.calm = true) (hN : X.N.Nodup) (hi : SI X E tg iter mi) (ok : BlkOk X.N X.env.scope scope own) (hgt : GtOk X.K E g gt (own.map (·.2)))
    (hg : ∀ (s : Shared) (H : Hp) (C : Addr) (cl : List (Str × Addr)) (fp : List Addr), PG (X.blk s H scope (compEnvC scope cl C X.env) fp) tg gt) (ht : ∀ (s : Shared) (H : Hp) (C : Addr) (cl : List (Str × Addr)) (fp : List Addr), STs (X.blk s H scope (compEnvC scope cl C X.env) fp) E ifs t)
    (he : ∀ (s : Shared) (H : Hp) (C : Addr) (cl : List (Str × Addr)) (fp : List Addr), SE (X.blk s H scope (compEnvC scope cl C X.env) fp) E elt ee) (hy : X.N[i]? = some y := by rfl) (hyl : X.env.scope.names.lookup y = some .local := by rfl)
    (hsw : swapsWith (.ListComp elt [⟨tg, iter, ifs, 0⟩] scope pos) (some (.Name y py)) spos.line X.env = pure true := by exact sw_true rfl rfl rfl (by decide +kernel)) (hs : ∀ x, foldedSetIterable iter X.env x = pure x := by intro _; rfl) :
    SS X E (.Assign [.Name y py] (.ListComp elt [⟨tg, iter, ifs, 0⟩] scope pos) spos) (setS i (compF mi g t ee (own.map (·.2)))) := PS.imp (ps_setLc (tt := TTof X.K E t) (te := TEof X.K E ee) hc hN hy hyl hsw hi ok hg ht he hs) (ts_set (te_compF hgt))
theorem ss_par (i j : Nat) {x y : Str} {px py pt : Pos} {kt : Nat} {k2 : Nat} {pt2 : Pos} (hc : X.calm = true) (hN : X.N.Nodup) (ha : SE X E a ma) (hb : SE X E b mb) (hi : X.N[i]? = some x := by rfl) (hj : X.N[j]? = some y := by rfl) (hij : i ≠ j := by decide)
    (hx : X.env.scope.names.lookup x = some .local := by rfl) (hy : X.env.scope.names.lookup y = some .local := by rfl) (hst : starEach [a, b] X.env = (false, eval a X.env) :: starEach [b] X.env := by rfl) (hst2 : starEach [b] X.env = (false, eval b X.env) :: starEach [] X.env := by rfl)
    (hw : swappedStores [.Tuple [.Name x px, .Name y py] kt pt] (.Tuple [a, b] k2 pt2) X.env = pure (some [x, y]) := by rfl)
    (hs : swapsWithSole [.Tuple [.Name x px, .Name y py] kt pt] (.Tuple [a, b] k2 pt2) pos.line X.env = pure false := by rfl) :
    SS X E (.Assign [.Tuple [.Name x px, .Name y py] kt pt] (.Tuple [a, b] k2 pt2) pos) (parS i j ma mb) := PS.imp (ps_par hc hN hi hj hij hx hy (pa_cons ha (pa_cons hb pa_nil hst2) hst) hw hs) (by
  rintro Dd σ H ⟨μ, env, s, hv, hs, post⟩
  refine ⟨μ, env, s, hv, hs, (Post.bind post).mono fun d s1 μ1 H1 g1 hs1 p1 v hr => ?_⟩
  refine ⟨μ1, env, s1, hv.grow g1, hs1, (Post.bind p1).mono fun e s2 μ2 H2 g2 hs2 p2 w hw => ?_⟩
  exact ⟨v, w, rfl, okO_next hs2 ((((hv.grow g1).grow g2).set (Rep.grow g2 _ _ hr) i).set hw j) p2⟩)
theorem ip_addD : PIp X .Add (R2of X.K E (int2 fun i j => .int (i + j))) := by
  intro pins s σ H x y v u Q I rx ry h
  obtain ⟨μ, st, dx, dy, hs, hx, hy, post⟩ := h
  obtain ⟨i, j, rfl, rfl, p⟩ := int2_rep hs hx hy post
  exact ip_add pins s σ H _ _ v u Q I rx ry ⟨i, j, rfl, rfl, post_int hs p⟩
theorem ip_subD : PIp X .Sub (R2of X.K E (int2 fun i j => .int (i - j))) := by
  intro pins s σ H x y v u Q I rx ry h
  obtain ⟨μ, st, dx, dy, hs, hx, hy, post⟩ := h
  obtain ⟨i, j, rfl, rfl, p⟩ := int2_rep hs hx hy post
  exact ip_sub pins s σ H _ _ v u Q I rx ry ⟨i, j, rfl, rfl, post_int hs p⟩
theorem ss_aug (i : Nat) {x : Str} {op : Operator} {f : D → D → M D} {pos' : Pos} (hN : X.N.Nodup) (ho : PIp X op (R2of X.K E f)) (he : SE X E e me) (hi : X.N[i]? = some x := by rfl) (hx : Loc X.env.scope x := by first | exact Or.inl rfl | exact Or.inr rfl) (hf : X.fn x = true ∨ X.env.scope.names.lookup x = some .local := by first | exact .inl rfl | exact .inr rfl | assumption) :
    SS X E (.AugAssign (.Name x pos') op e pos) (augS i f me) := PS.imp (ps_aug hN hi hx he ho hf) (by
  rintro Dd σ H ⟨μ, env, s, hv, hs, post⟩
  unfold augS varM at post
  cases ee : env[i]? with
  | none => rw [ee] at post; exact (show False from post).elim
  | some o =>
    cases o with
    | none => rw [ee] at post; exact (show False from post).elim
    | some d =>
      rw [ee] at post
      obtain ⟨v, h1, h2⟩ := hv.val i d ee
      have post2 : Post X.K E μ H ((me env >>= fun y => f d y >>= fun z => Pure.pure (Out.nx (env.set i (some z)))) s) (okO X.K Dd) := post
      refine ⟨v, h1, μ, env, s, hv, hs, (Post.bind post2).mono fun y s1 μ1 H1 g1 hs1 p1 w hr => ?_⟩
      refine ⟨μ1, s1, d, y, hs1, Rep.grow g1 d v h2, hr, (Post.bind p1).mono fun z s2 μ2 H2 g2 hs2 p2 u hu => ?_⟩
      exact okO_next hs2 (((hv.grow g1).grow g2).set hu i) p2)
theorem whileN_mono {b : Env → M Out} : ∀ (k : Nat) (env : Env) (s : S), whileN mc b k env s ≠ .stuck → ∀ j, whileN mc b (k + j) env s = whileN mc b k env s
  | 0, env, s, h, j => absurd rfl h
  | k + 1, env, s, h, j => by
    rw [Nat.add_right_comm]
    unfold whileN at h ⊢
    rw [bind_run] at h ⊢
    cases e1 : mc env s with
    | stuck => rw [bind_run, e1]
    | exc c s1 => rw [bind_run, e1]
    | ok t s1 =>
      rw [e1] at h
      rw [bind_run, e1]
      cases t with
      | false => rfl
      | true =>
        simp only [if_true] at h ⊢
        rw [bind_run] at h ⊢
        cases e2 : b env s1 with
        | stuck => rw [bind_run, e2]
        | exc c s2 => rw [bind_run, e2]
        | ok o s2 =>
          rw [e2] at h
          rw [bind_run, e2]
          cases o with
          | nx env2 => exact whileN_mono k env2 s2 h j
          | ct env2 => exact whileN_mono k env2 s2 h j
          | bk env2 => rfl
          | rt d => rfl
theorem whileS_eq {b : Env → M Out} {k : Nat} {env : Env} {s : S} (h : whileN mc b k env s ≠ .stuck) : whileS mc b env s = whileN mc b k env s := by
  have hx : ∃ k, whileN mc b k env s ≠ .stuck := ⟨k, h⟩
  have hc := Classical.choose_spec hx
  have e1 : whileS mc b env s = whileN mc b (Classical.choose hx) env s := dif_pos hx
  rw [e1, ← whileN_mono _ env s hc k, ← whileN_mono k env s h (Classical.choose hx), Nat.add_comm]
theorem ss_while {body : List Stmt} (hp : PassesOwn (model X.prog X.w) X.A X.env X.xe) (hc : ST X E c mc) (hb : SSs X E body m) : SS X E (.While c body [] pos) (whileS mc m) := PS.imp (ps_while hp hc hb) (by
  rintro Dd σ H ⟨μ, env, s, hv, hs, post⟩
  by_cases hx : ∃ k, whileN mc m k env s ≠ .stuck
  · have e1 : whileS mc m env s = whileN mc m (Classical.choose hx) env s := dif_pos hx
    rw [e1] at post
    let W : Nat → L2.St → Hp → Prop := fun k σ' H' => ∃ μ' env' s', SimV X.K μ' H' σ' env' ∧ SimS X.K μ' H' s' ∧ Post X.K E μ' H' (whileN mc m k env' s') (okO X.K Dd)
    refine ⟨W, ⟨_, μ, env, s, hv, hs, post⟩, ?_⟩
    rintro k σ' H' ⟨μ', env', s', hv', hs', p⟩
    cases k with
    | zero => exact (show False from p).elim
    | succ k =>
      refine ⟨μ', env', s', hv', hs', (Post.bind (show Post X.K E μ' H' ((mc env' >>= _) s') (okO X.K Dd) from p)).mono fun b s1 μ1 H1 g1 hs1 p1 => ?_⟩
      show if b = true then _ else _
      cases b with
      | false => exact okO_next hs1 (hv'.grow g1) p1
      | true =>
        refine ⟨W k, fun σ2 H2 q => ⟨k, Nat.lt_succ_self k, q⟩, μ1, env', s1, hv'.grow g1, hs1, (Post.bind p1).mono fun o s2 μ2 H2 g2 hs2 p2 => ?_⟩
        cases o with
        | nx env2 => exact fun σ2 hv2 => ⟨μ2, env2, s2, hv2, hs2, p2⟩
        | ct env2 => exact fun σ2 hv2 => ⟨μ2, env2, s2, hv2, hs2, p2⟩
        | bk env2 => exact fun σ2 hv2 => okO_next hs2 hv2 p2
        | rt d => exact Post.now (E := E) (a := Out.rt d) p2 hs2
  · have e1 : whileS mc m env s = .stuck := dif_neg hx
    rw [e1] at post
    exact (show False from post).elim)
theorem ss_for {iter : Expr} {body : List Stmt} {mi : Env → M Src} {g : D → Env → M Env} (hp : PassesOwn (model X.prog X.w) X.A X.env X.xe) (hc : X.calm = true) (hi : SI X E tg iter mi) (hg : SG X E tg g) (hb : SSs X E body m)
    (hs : ∀ x, foldedSetIterable iter X.env x = pure x := by intro _; rfl) : SS X E (.For tg iter body [] pos) (forS mi g m) := PS.imp (ps_for hp hc hi hg hb hs) (by
  rintro Dd σ H ⟨μ, env, s, hv, hs, post⟩
  refine ⟨μ, env, s, hv, hs, (Post.bind post).mono fun r s1 μ1 H1 g1 hs1 p1 J hJ => ?_⟩
  let W : Nat → Nat → L2.St → Hp → Prop := fun i k σ' H' => k = r.items.length - i ∧ ∃ μ' env' s', Grow μ1 H1 μ' H' ∧ SimV X.K μ' H' σ' env' ∧ SimS X.K μ' H' s' ∧ i ≤ r.items.length ∧ Post X.K E μ' H' (loopM r g m (r.items.drop i) env' s') (okO X.K Dd)
  refine ⟨W, ⟨_, rfl, μ1, env, s1, Grow.refl _ _, hv.grow g1, hs1, Nat.zero_le _, p1⟩, ?_⟩
  rintro i k σ' H' ⟨rfl, μ', env', s', g2, hv', hs', hile, p⟩
  by_cases hi : i < r.items.length
  · right
    have hd : r.items[i]? = some r.items[i] := List.getElem?_eq_getElem hi
    rw [List.drop_eq_getElem_cons hi] at p
    obtain ⟨ok, p2⟩ := guard_ok (show Post X.K E μ' H' ((guardM r >>= _) s') (okO X.K Dd) from p)
    obtain ⟨go, yl⟩ := (hJ μ' H' s' g2.w hs' ok).1 i _ hd
    refine ⟨go, fun σ3 H3 => W (i + 1) (r.items.length - (i + 1)) σ3 H3, fun σ3 H3 q => ⟨_, by omega, q⟩, fun x H3 y => ?_⟩
    obtain ⟨g3, hs3, rx⟩ := yl x H3 y
    refine ⟨μ', env', s', _, hv'.grow g3, hs3, rx, (Post.bind (Post.later g3 p2)).mono fun env4 s4 μ4 H4 g4 hs4 p4 σ4 hv4 => ?_⟩
    refine ⟨μ4, env4, s4, hv4, hs4, (Post.bind p4).mono fun o s5 μ5 H5 g5 hs5 p5 => ?_⟩
    have gg := (g2.trans g3).trans (g4.trans g5)
    cases o with
    | nx env5 => exact fun σ5 hv5 => ⟨rfl, μ5, env5, s5, gg, hv5, hs5, hi, p5⟩
    | ct env5 => exact fun σ5 hv5 => ⟨rfl, μ5, env5, s5, gg, hv5, hs5, hi, p5⟩
    | bk env5 => exact fun σ5 hv5 => okO_next hs5 hv5 p5
    | rt d => exact Post.now (E := E) (a := Out.rt d) p5 hs5
  · left
    have ei : i = r.items.length := by omega
    subst ei
    rw [List.drop_length] at p
    obtain ⟨ok, p2⟩ := guard_ok (show Post X.K E μ' H' ((guardM r >>= _) s') (okO X.K Dd) from p)
    exact ⟨(hJ μ' H' s' g2.w hs' ok).2, okO_next hs' hv' p2⟩)
end

/-! ### methods of lists -/
def isL (x : D) : M Unit := match x with
  | .ptr n => fun s => match s[n]? with
    | some (.lst _) => .ok () s
    | _ => .stuck
  | _ => stuck
def methM (f : D → List D → M D) (mo : Env → M D) (ma : Env → M (List D)) (env : Env) : M D := mo env >>= fun x => isL x >>= fun _ => ma env >>= fun ds => f x ds
def putC (n : Nat) (c : Cell) (d : D) : M D := fun s => .ok d (s.set n c)
def lstOf (x : D) (k : Nat → List D → M D) : M D := match x with
  | .ptr n => fun s => match s[n]? with
    | some (.lst ds) => k n ds s
    | _ => .stuck
  | _ => stuck
def appendD (x : D) (as : List D) : M D := lstOf x fun n ds => match as with
  | [d] => if ds.length ≤ 100000 then putC n (.lst (ds ++ [d])) .non else stuck
  | _ => stuck
def popD (x : D) (as : List D) : M D := lstOf x fun n ds => match as with
  | [] => (match ds[ds.length - 1]? with
    | some d => putC n (.lst ds.dropLast) d
    | none => stuck)
  | _ => stuck
theorem lstOf_rep {K : PySem.W.Frag} {E : XK} {μ : Mu} {H : Hp} {s : S} {x : D} {v : V} {k : Nat → List D → M D} {q : D → S → Mu → Hp → Prop} (hs : SimS K μ H s) (r : Rep K μ H v x) (post : Post K E μ H (lstOf x k s) q) :
    ∃ a n ds xs, v = .ref a ∧ μ.c[n]? = some a ∧ s[n]? = some (.lst ds) ∧ H a = some (.lst xs) ∧ RepL K μ H xs ds ∧ Post K E μ H (k n ds s) q := by
  unfold lstOf at post
  cases r with
  | @ptr a n hn =>
    cases ec : s[n]? with
    | none => simp only [ec] at post; exact (show False from post).elim
    | some cl =>
      simp only [ec] at post
      cases cl with
      | lst ds =>
        obtain ⟨xs, h1, h2⟩ := cell_lst hs hn ec
        exact ⟨a, n, ds, xs, rfl, hn, ec, h1, h2, post⟩
      | dK kvs => exact (show False from post).elim
      | dT kvs => exact (show False from post).elim
      | ins C fs => exact (show False from post).elim
      | fK kvs => exact (show False from post).elim
  | _ => exact (show False from post).elim
theorem put_lst {K : PySem.W.Frag} {E : XK} {μ : Mu} {H : Hp} {s : S} {n : Nat} {a : Addr} {xs ys : List V} {ds : List D} {d : D} {v : V} {Q : VK} (hs : SimS K μ H s) (hn : μ.c[n]? = some a) (h : H a = some (.lst xs)) (l : RepL K μ H ys ds) (r : Rep K μ H v d)
    (post : Post K E μ H (putC n (.lst ds) d s) (okD K Q)) : Q v (upd H a (.lst ys)) := by
  have hm : Mut (H a) := by rw [h]; trivial
  have g := grow_put (μ := μ) (H := H) (a := a) (o := .lst ys) hm (List.mem_of_getElem? hn)
  exact post _ _ g (hs.put hn hm ⟨_, upd_same, RepL.grow g _ _ l⟩) v (Rep.grow g _ _ r)
section
variable {X : Cx} {E : XK} {o e : Expr} {es : List Expr} {mo : Env → M D} {ma : Env → M (List D)} {apos cpos : Pos} {name : Str} {id : String}
theorem te_meth {K : PySem.W.Frag} {f : D → List D → M D} {r : V → List V → Hp → VK → Prop} (hr : ∀ x xs H Q, RMof K E f x xs H Q → r x xs H Q) : ∀ σ H Q, TEof K E (methM f mo ma) σ H Q → tBM K "list" r (TEof K E mo) (TAof K E ma) σ H Q := by
  rintro σ H Q ⟨μ, env, s, hv, hs, post⟩
  refine ⟨μ, env, s, hv, hs, (Post.bind post).mono fun x s1 μ1 H1 g1 hs1 p1 v hx => ?_⟩
  rw [bind_run] at p1
  unfold isL at p1
  cases hx with
  | @ptr a n hn =>
    cases ec : s1[n]? with
    | none => simp only [ec] at p1; exact (show False from p1).elim
    | some cl =>
      simp only [ec] at p1
      cases cl with
      | lst ds =>
        obtain ⟨xs, h1, h2⟩ := cell_lst hs1 hn ec
        refine ⟨.inl ⟨rfl, xs, SqL.of h1⟩, μ1, env, s1, hv.grow g1, hs1, (Post.bind p1).mono fun ds2 s2 μ2 H2 g2 hs2 p2 vs hl => ?_⟩
        exact hr _ _ _ _ ⟨μ2, s2, _, ds2, hs2, .ptr (g2.at hn), hl, p2⟩
      | dK kvs => exact (show False from p1).elim
      | dT kvs => exact (show False from p1).elim
      | ins C fs => exact (show False from p1).elim
      | fK kvs => exact (show False from p1).elim
  | _ => exact (show False from p1).elim
theorem se_append (ho : SE X E o mo) (ha : SA X E [e] ma) (hbase : attributeBase o "append" X.env (eval o X.env) = eval o X.env := by rfl)
    (hline : (apos.endLine == cpos.line) = true := by rfl) (hs : starEach [e] X.env = (false, eval e X.env) :: starEach [] X.env := by rfl) : SE X E (.Call (.Attribute o "append" apos) [e] [] cpos) (methM appendD mo ma) := PE.imp (pe_bm PySem.F.plainAttrs_list PySem.F.slot_list_append PySem.F.type_list_append mt_append ho ha hbase (by rw [hs]; rfl) hline hs rfl) (te_meth (by
  rintro x xs H Q ⟨μ, s, dx, ds, hs, hx, hl, post⟩
  obtain ⟨a, n, es, ys, rfl, hn, ec, h1, h2, p⟩ := lstOf_rep hs hx post
  cases hl with
  | nil => exact (show False from p).elim
  | cons r t =>
    cases t with
    | nil =>
      simp only [] at p
      split at p
      · rename_i hz
        exact ⟨a, ys, _, rfl, rfl, h1, Nat.lt_of_le_of_lt (by rw [h2.length]; exact hz) (by decide), put_lst hs hn h1 (h2.append (.cons r .nil)) .non p⟩
      · exact (show False from p).elim
    | cons r' t' => exact (show False from p).elim))
end

/-! ### a def -/
def startE (N : Nat) (ds : List D) : Env := ds.map some ++ List.replicate (N - ds.length) none
def outM (o : Out) : M D := match o with
  | .nx _ => pure .non
  | .rt d => pure d
  | _ => stuck
def fnM (N : Nat) (m : Env → M Out) (ds : List D) : M D := m (startE N ds) >>= outM
section
variable {P : Program} {w : World} {K : PySem.W.Frag} {mg : Str → Option Value} {base : Heap}
theorem simV_start {μ : Mu} {H : Hp} {vs : List V} {ds : List D} (N : List Str) (h : RepL K μ H vs ds) : SimV K μ H (start N vs) (startE N.length ds) := by
  unfold L2.start startE
  have hl := h.length
  refine ⟨by simp only [List.length_append, List.length_map, List.length_replicate, hl], fun i d e => ?_⟩
  by_cases hi : i < ds.length
  · rw [List.getElem?_append_left (by rw [List.length_map]; exact hi), List.getElem?_map] at e
    cases ed : ds[i]? with
    | none => rw [ed] at e; cases e
    | some d' =>
      rw [ed] at e
      cases e
      obtain ⟨v, hv, r⟩ := h.get ed
      exact ⟨v, by rw [List.getElem?_append_left (by rw [List.length_map, hl]; exact hi), List.getElem?_map, hv]; rfl, r⟩
  · rw [List.getElem?_append_right (by rw [List.length_map]; omega)] at e
    have := List.mem_of_getElem? e
    rw [List.mem_replicate] at this
    cases this.2
/-- THE RULE for a def: its body mirrored -/
theorem fn_ok {x qual : Str} {st : Stmt} {f : Addr} {fd : FuncData} {N ps : List Str} {k n : Nat} {m : Env → M Out} (F : Fun K x qual st f fd) (Sc : FnScope N ps (defScope st)) (hn : ps.length = n)
    (hbody : ∀ (cdv : Value) (A : Around) (outer : List PySem.Env) (s : Shared) (H : Hp) (E : XK), Room k (A.deeper (envOfC qual (defScope st) s.heap.objs.size f cdv)) → SSs (cxOf CX0 P w K mg base N qual (defScope st) f cdv A outer s H E).nox E (defBody st) m) :
    FnOk P w K mg base CX0 (k + 1) f fd ps (spM K n (fnM N.length m)) := by
  refine F.ok Sc (fun vs H Q E h => ?_) (fun cdv A outer s H vs Q E hr h => ?_)
  · obtain ⟨μ, s, ds, hs, hl, hlen, p⟩ := h
    rw [hl.length, hlen, hn]
  · obtain ⟨μ, s0, ds, hs, hl, hlen, p⟩ := h
    refine ⟨_, hbody cdv A outer s H E hr, μ, startE N.length ds, s0, simV_start N hl, hs, (Post.bind p).mono fun o s1 μ1 H1 g1 hs1 p1 => ?_⟩
    cases o with
    | nx env => exact fun σ' _ => post_val hs1 p1 .non
    | rt d => exact fun v hr => post_val hs1 p1 hr
    | bk env => exact (show False from p1).elim
    | ct env => exact (show False from p1).elim
/-- a better mirror of the same def -/
theorem fn_imp {k n : Nat} {f : Addr} {fd : FuncData} {ps : List Str} {F G : List D → M D} {CX : CXT} (h : FnOk P w K mg base CX k f fd ps (spM K n F))
    (hg : ∀ (E : XK) (ds : List D) (s : S) (μ : Mu) (H : Hp) (Q : VK), ds.length = n → SimS K μ H s → Post K E μ H (G ds s) (okD K Q) → Post K E μ H (F ds s) (okD K Q)) : FnOk P w K mg base CX k f fd ps (spM K n G) :=
  h.imp fun vs H Q E ⟨μ, s, ds, hs, hl, hlen, p⟩ => ⟨μ, s, ds, hs, hl, hlen, hg E ds s μ H Q hlen hs p⟩
end
end PL

/-! PL6: what the top leaves, the law's end, what a call may leave behind. -/
namespace PL
open PySem PySem.Spec PyProof.Rows L2

theorem passA {X : Cx} {E : XK} : Passes CX0 X E := fun _ _ _ _ _ _ _ h => h.elim
section
variable {P : Program} {w : World} {K : PySem.W.Frag} {mg : Str → Option Value} {base : Heap}
structure DefOk (K : PySem.W.Frag) (mg : Str → Option Value) (x : Str) (st : Stmt) (ps : List Str) (f : Addr) (fd : FuncData) : Prop where
  fn : Fun K x x st f fd
  b : Binds K fd ps []
  m : mg x = some (.ref f)
inductive DefIn (K : PySem.W.Frag) (x : Str) (st : Stmt) : Prop where
  | mk {f : Addr} {od an : Option Addr} {sl : Array (Option Value)} {oc kV dc pm cd ct : Value} (a : PySem.W.nsIn K mainGlobals x = some (some (.ref f)))
      (l : K.lookup f = some ⟨oc, od, .func (PySem.W.fnOf x x (defArgs st) (defBody st) (defScope st) .none kV dc pm an cd ct), sl⟩) (c : PySem.W.codeIn K cd x = true) (k : PySem.W.keepIn K (.ref f) = true) : DefIn K x st
theorem DefIn.get {x : Str} {st : Stmt} {h : Heap} (d : DefIn K x st) (ps : List Str) (X : K.In h) (G : h.Ns mainGlobals mg)
    (hb : ∀ (kV doc pm : Value) (an : Option Addr) (cdv ct : Value) (us : List Value), us.length = ps.length → bindArgs (PySem.W.fnOf x x (defArgs st) (defBody st) (defScope st) .none kV doc pm an cdv ct) ⟨us, []⟩ = pure (ps.zip us)) :
    ∃ f fd, DefOk K mg x st ps f fd ∧ ∀ (s : Shared) (us : List Value), us.length = ps.length → BindsTo s fd ⟨us, []⟩ (ps.zip us) := by
  obtain ⟨a, l, c, k⟩ := d
  have F := fun_mk (st := st) l c k
  exact ⟨_, _, ⟨F, F.binds hb, PySem.W.mg_of X G a⟩, fun s us hl => .of_eq (hb _ _ _ _ _ _ us hl)⟩
theorem fn_stuck {k n : Nat} {f : Addr} {fd : FuncData} {ps : List Str} {CX : CXT} : FnOk P w K mg base CX k f fd ps (spM K n fun _ => stuck) :=
  ⟨fun vs H Q E ⟨μ, s, ds, hs, hl, hlen, p⟩ => (show False from p).elim, fun A outer s H args us vs Q E hr he hb hv ⟨μ, st, ds, hs, hl, hlen, p⟩ => (show False from p).elim⟩
theorem law_end {H : Hp} {a : Addr} {ns : List Int} {F : List D → M D} (hO : Only H) (hS : SqL K H a (ns.map V.int)) (h : ∃ s', F [.flst (ns.map D.int)] [] = .ok (.bl true) s') :
    spM K 1 F [.ref a] H (fun v _ => v = .bl true) fun _ _ _ => False := by
  obtain ⟨s', e⟩ := h
  have hf : FrzL K H a (ns.map V.int) := by
    rcases hS with (h | ⟨o, h⟩) | h
    · rcases hO a with z | ⟨o, xs, z⟩
      · rw [h] at z; cases z
      · rw [h] at z; cases z
    · exact .inl ⟨o, h⟩
    · exact .inr h
  have hl : ∀ ms : List Int, RepL K ⟨[], []⟩ H (ms.map V.int) (ms.map D.int) := fun ms => by
    induction ms with
    | nil => exact .nil
    | cons m ms ih => exact .cons (.int m) ih
  refine ⟨⟨[], []⟩, [], [.flst (ns.map D.int)], ⟨rfl, List.nodup_nil, (fun _ h => nomatch h), (fun _ h => nomatch h), fun n c z => by simp at z⟩, .cons (.flst hf (hl ns)) .nil, rfl, ?_⟩
  rw [e]
  intro μ' H' g hs v hv
  cases hv
  rfl
end

/-! ### what a call leaves behind may be forgotten -/
mutual
inductive Cl (n : Nat) : D → Prop
  | non : Cl n .non
  | bl (b : Bool) : Cl n (.bl b)
  | int (i : Int) : Cl n (.int i)
  | str (x : Str) : Cl n (.str x)
  | tup {ds : List D} : ClL n ds → Cl n (.tup ds)
  | flst {ds : List D} : ClL n ds → Cl n (.flst ds)
  | vls {ds : List D} : ClL n ds → Cl n (.vls ds)
  | ptr {k : Nat} : k < n → Cl n (.ptr k)
inductive ClL (n : Nat) : List D → Prop
  | nil : ClL n []
  | cons {d : D} {ds : List D} : Cl n d → ClL n ds → ClL n (d :: ds)
end
mutual
theorem Rep.cl {K : PySem.W.Frag} {μ : Mu} {H : Hp} : ∀ (d : D) (v : V), Rep K μ H v d → Cl μ.c.length d
  | .non, _, h => .non
  | .bl b, _, h => .bl b
  | .int i, _, h => .int i
  | .str x, _, h => .str x
  | .tup ds, _, h => by
    cases h with
    | tup hs hl => exact .tup (RepL.cl ds _ hl)
  | .flst ds, _, h => by
    cases h with
    | flst hs hl => exact .flst (RepL.cl ds _ hl)
  | .vls ds, _, h => by
    cases h with
    | vls hs hl => exact .vls (RepL.cl ds _ hl)
  | .ptr n, _, h => by
    cases h with
    | ptr e => exact .ptr (List.getElem?_eq_some_iff.mp e).1
theorem RepL.cl {K : PySem.W.Frag} {μ : Mu} {H : Hp} : ∀ (ds : List D) (vs : List V), RepL K μ H vs ds → ClL μ.c.length ds
  | [], _, h => .nil
  | d :: ds, _, h => by
    cases h with
    | cons h1 h2 => exact .cons (Rep.cl d _ h1) (RepL.cl ds _ h2)
end
mutual
theorem Cl.rep {K : PySem.W.Frag} {c t h : List Addr} {H : Hp} : ∀ (d : D) (v : V), Cl c.length d → Rep K ⟨c ++ t, h⟩ H v d → Rep K ⟨c, h⟩ H v d
  | .non, _, _, h => by cases h; exact .non
  | .bl b, _, _, h => by cases h; exact .bl b
  | .int i, _, _, h => by cases h; exact .int i
  | .str x, _, _, h => by cases h; exact .str x
  | .tup ds, _, c, h => by
    cases h with
    | tup hs hl =>
      cases c with
      | tup c => exact .tup hs (ClL.rep ds _ c hl)
  | .flst ds, _, c, h => by
    cases h with
    | flst hs hl =>
      cases c with
      | flst c => exact .flst hs (ClL.rep ds _ c hl)
  | .vls ds, _, c, h => by
    cases h with
    | vls hs hl =>
      cases c with
      | vls c => exact .vls ⟨hs.at_, fun z => hs.nc (List.mem_append_left _ z), hs.nh⟩ (ClL.rep ds _ c hl)
  | .ptr n, _, c, h => by
    cases h with
    | ptr e =>
      cases c with
      | ptr c =>
        refine .ptr ?_
        rw [List.getElem?_append_left c] at e
        exact e
theorem ClL.rep {K : PySem.W.Frag} {c t h : List Addr} {H : Hp} : ∀ (ds : List D) (vs : List V), ClL c.length ds → RepL K ⟨c ++ t, h⟩ H vs ds → RepL K ⟨c, h⟩ H vs ds
  | [], _, _, h => by cases h; exact .nil
  | d :: ds, _, c, h => by
    cases h with
    | cons h1 h2 =>
      cases c with
      | cons c1 c2 => exact .cons (Cl.rep d _ c1 h1) (ClL.rep ds _ c2 h2)
end
def CellCl (n : Nat) : Cell → Prop
  | .lst ds => ClL n ds
  | .dK kvs => ClL n (kvs.map (·.2))
  | .dT kvs => ClL n (kvs.map (·.2))
  | .ins _ fs => ClL n (fs.map (·.2))
  | .fK kvs => ClL n (kvs.map (·.2))
theorem CellOk.cl {K : PySem.W.Frag} {μ : Mu} {H : Hp} {a : Addr} {c : Cell} (h : CellOk K μ H a c) : CellCl μ.c.length c := by
  cases c with
  | lst ds => obtain ⟨xs, _, r⟩ := h; exact RepL.cl _ _ r
  | dK kvs => obtain ⟨xs, _, r⟩ := h; exact RepL.cl _ _ r.2
  | dT kvs => obtain ⟨xs, _, r⟩ := h; exact RepL.cl _ _ r.2
  | ins C fs => obtain ⟨_, dx, xs, _, _, r⟩ := h; exact RepL.cl _ _ r.2
  | fK kvs => obtain ⟨o, xs, _, r⟩ := h; exact RepL.cl _ _ r.2
theorem CellCl.ok {K : PySem.W.Frag} {c t h : List Addr} {H : Hp} {a : Addr} {x : Cell} (k : CellCl c.length x) (e : CellOk K ⟨c ++ t, h⟩ H a x) : CellOk K ⟨c, h⟩ H a x := by
  cases x with
  | lst ds => obtain ⟨xs, e, r⟩ := e; exact ⟨xs, e, ClL.rep _ _ k r⟩
  | dK kvs => obtain ⟨xs, e, r⟩ := e; exact ⟨xs, e, r.1, ClL.rep _ _ k r.2⟩
  | dT kvs => obtain ⟨xs, e, r⟩ := e; exact ⟨xs, e, r.1, ClL.rep _ _ k r.2⟩
  | ins C fs => obtain ⟨c, dx, xs, hc, e, r⟩ := e; exact ⟨c, dx, xs, hc, e, r.1, ClL.rep _ _ k r.2⟩
  | fK kvs => obtain ⟨o, xs, e, r⟩ := e; exact ⟨o, xs, e, r.1, ClL.rep _ _ k r.2⟩
/-- a store whose pointers stay within it -/
def SCl (s : S) : Prop := ∀ c ∈ s, CellCl s.length c
theorem SimS.scl {K : PySem.W.Frag} {μ : Mu} {H : Hp} {s : S} (h : SimS K μ H s) : SCl s := fun c hc => by
  obtain ⟨n, hn⟩ := List.getElem?_of_mem hc
  obtain ⟨a, _, h2⟩ := h.cell n c hn
  rw [← h.len]
  exact h2.cl
/-- the store s' may be cut back to the length of s -/
def Cut (s s' : S) : Prop := s.length ≤ s'.length ∧ ∀ (i : Nat) (c : Cell), i < s.length → s'[i]? = some c → s[i]? = some c ∨ CellCl s.length c
def thawD (s : S) (d : D) : Option (List D) := match d with
  | .ptr j => match s[j]? with
    | some (.lst ds) => some ds
    | _ => none
  | _ => none
open Classical in
noncomputable def cutR (s : S) (r : R D) : R D := match r with
  | .stuck => .stuck
  | .exc c s' => if Cut s s' then .exc c (s'.take s.length) else .exc c s'
  | .ok d s' => if Cut s s' then (if Cl s.length d then .ok d (s'.take s.length) else match thawD s' d with
    | some ds => if ClL s.length ds then .ok (.vls ds) (s'.take s.length) else .ok d s'
    | none => .ok d s') else .ok d s'
/-- a def whose own cells are forgotten when it is left -/
noncomputable def fnF (N : Nat) (m : Env → M Out) (ds : List D) : M D := fun s => cutR s (fnM N m ds s)
theorem cut_sim {K : PySem.W.Frag} {μ μ' : Mu} {H H' : Hp} {s s' : S} (hs : SimS K μ H s) (g : Grow μ H μ' H') (hs' : SimS K μ' H' s') (hc : Cut s s') : Grow μ H ⟨μ.c, μ'.h⟩ H' ∧ SimS K ⟨μ.c, μ'.h⟩ H' (s'.take s.length) := by
  obtain ⟨t, ht⟩ := g.pre
  obtain ⟨c', h'⟩ := μ'
  simp only [] at ht
  subst ht
  refine ⟨⟨⟨[], (List.append_nil μ.c).symm⟩, g.hid, g.tup, g.frz, fun a o h n => g.frm a o h fun z => ?_, fun a h => .inl h, g.trk⟩, ⟨?_, hs.nd, hs'.hok, fun p hp z => hs'.dis p hp (List.mem_append_left _ z), fun n x e => ?_⟩⟩
  · rcases g.new a z with z | z
    · exact n z
    · rw [h] at z
      cases z
  · show μ.c.length = _
    rw [List.length_take, hs.len, Nat.min_eq_left hc.1]
  · have hn : n < s.length := by
      have q := (List.getElem?_eq_some_iff.mp e).1
      rw [List.length_take] at q
      omega
    rw [List.getElem?_take_of_lt hn] at e
    obtain ⟨a, ha, ho⟩ := hs'.cell n x e
    have ha2 : μ.c[n]? = some a := by
      have : (μ.c ++ t)[n]? = some a := ha
      rw [List.getElem?_append_left (by rw [hs.len]; exact hn)] at this
      exact this
    refine ⟨a, ha2, CellCl.ok (t := t) ?_ ho⟩
    rcases hc.2 n x hn e with q | q
    · have := hs.scl x (List.mem_of_getElem? q)
      show CellCl μ.c.length x
      rw [hs.len]
      exact this
    · show CellCl μ.c.length x
      rw [hs.len]
      exact q
theorem Post.cut {K : PySem.W.Frag} {E : XK} {μ : Mu} {H : Hp} {s : S} {r : R D} {Q : VK} (hs : SimS K μ H s) (p : Post K E μ H (cutR s r) (okD K Q)) : Post K E μ H r (okD K Q) := by
  cases r with
  | stuck => exact p
  | exc c s' =>
    intro C hC μ' H' g hs'
    unfold cutR at p
    simp only [] at p
    split at p
    · rename_i hc
      obtain ⟨g2, hs2⟩ := cut_sim hs g hs' hc
      exact p C hC _ _ g2 hs2
    · exact p C hC _ _ g hs'
  | ok d s' =>
    intro μ' H' g hs' v hv
    unfold cutR at p
    simp only [] at p
    split at p
    · rename_i hc
      obtain ⟨g2, hs2⟩ := cut_sim hs g hs' hc
      obtain ⟨t, ht⟩ := g.pre
      obtain ⟨c', h'⟩ := μ'
      simp only [] at ht
      subst ht
      split at p
      · rename_i hd
        exact p _ _ g2 hs2 v (Cl.rep (t := t) d v (by rw [hs.len]; exact hd) hv)
      · rename_i hd
        split at p
        · rename_i ds e
          split at p
          · rename_i hl
            unfold thawD at e
            cases hv with
            | @ptr a j hj =>
              simp only [] at e
              cases ec : s'[j]? with
              | none => rw [ec] at e; cases e
              | some x =>
                rw [ec] at e
                cases x with
                | lst es =>
                  cases e
                  obtain ⟨xs, q, r⟩ := cell_lst hs' hj ec
                  have hj2 : ¬ j < s.length := fun z => hd (.ptr z)
                  have hj3 : (μ.c ++ t)[j]? = some a := hj
                  refine p _ _ g2 hs2 (.ref a) (.vls ⟨q, fun z => ?_, fun z => hs'.dis a z (List.mem_of_getElem? hj)⟩ (ClL.rep (t := t) _ _ (by rw [hs.len]; exact hl) r))
                  obtain ⟨i, hi⟩ := List.getElem?_of_mem z
                  have hi1 : i < μ.c.length := (List.getElem?_eq_some_iff.mp hi).1
                  have hi2 : (μ.c ++ t)[i]? = some a := by rw [List.getElem?_append_left hi1]; exact hi
                  have e1 : i = j := nd_ix hs'.nd hi2 hj3
                  have := hs.len
                  omega
                | dK kvs => cases e
                | dT kvs => cases e
                | ins C fs => cases e
                | fK kvs => cases e
            | _ => cases e
          · exact p _ _ g hs' v hv
        · exact p _ _ g hs' v hv
    · exact p _ _ g hs' v hv
theorem fn_okF {P : Program} {w : World} {K : PySem.W.Frag} {mg : Str → Option Value} {base : Heap} {x qual : Str} {st : Stmt} {f : Addr} {fd : FuncData} {N ps : List Str} {k n : Nat} {m : Env → M Out} (F : Fun K x qual st f fd) (Sc : FnScope N ps (defScope st)) (hn : ps.length = n)
    (hbody : ∀ (cdv : Value) (A : Around) (outer : List PySem.Env) (s : Shared) (H : Hp) (E : XK), Room k (A.deeper (envOfC qual (defScope st) s.heap.objs.size f cdv)) → SSs (cxOf CX0 P w K mg base N qual (defScope st) f cdv A outer s H E).nox E (defBody st) m) :
    FnOk P w K mg base CX0 (k + 1) f fd ps (spM K n (fnF N.length m)) := fn_imp (fn_ok F Sc hn hbody) fun E ds s μ H Q _ hs p => Post.cut hs p
end PL

/-! PL7: mirrors run: equations for simp. -/
namespace PL
open PySem PySem.Spec PyProof.Rows L2

/-- go on behind an answer -/
def R.on {α β : Type} (r : R α) (f : α → S → R β) : R β := match r with
  | .stuck => .stuck | .ok a s => f a s | .exc c s => .exc c s
theorem on_ok {α β : Type} (a : α) (s : S) (f : α → S → R β) : (R.ok a s).on f = f a s := rfl
theorem on_exc {α β : Type} (c : Str) (s : S) (f : α → S → R β) : (R.exc c s : R α).on f = .exc c s := rfl
theorem on_stuck {α β : Type} (f : α → S → R β) : (R.stuck : R α).on f = .stuck := rfl
theorem bind_on {α β : Type} (m : M α) (f : α → M β) (s : S) : (m >>= f) s = (m s).on fun a s' => f a s' := by
  rw [bind_run]
  cases m s <;> rfl
section
variable {f g : D → D → M D} {h : D → M D} {fl : List D → M D} {ma mb mc : Env → M D} {ta tb : Env → M Bool} {mr : Env → M (List D)} {env : Env} {s : S} {m n : Env → M Out} {i j : Nat}
theorem binM_run : binM f ma mb env s = (ma env s).on fun x s1 => (mb env s1).on fun y s2 => f x y s2 := by
  show (ma env >>= _) s = _
  rw [bind_on]
  congr 1
theorem unM_run : unM h ma env s = (ma env s).on fun x s1 => h x s1 := bind_on _ _ _
def bB (d : D) (s : S) : R Bool := match d with
  | .bl b => .ok b s
  | _ => .stuck
theorem bB_bl (b : Bool) : bB (.bl b) s = .ok b s := rfl
theorem tB_run : tB ma env s = (ma env s).on bB := by
  show (ma env >>= _) s = _
  rw [bind_on]
  congr 1
  funext d s1
  cases d <;> rfl
def chK (g : D → D → M D) (mc : Env → M D) (env : Env) (y : D) (r : D) (s : S) : R D := match r with
  | .bl true => (mc env s).on fun z s4 => g y z s4
  | .bl false => .ok (.bl false) s
  | _ => .stuck
theorem chK_t (y : D) : chK g mc env y (.bl true) s = (mc env s).on fun z s4 => g y z s4 := rfl
theorem chK_f (y : D) : chK g mc env y (.bl false) s = .ok (.bl false) s := rfl
theorem chainM_run : chainM f g ma mb mc env s = (ma env s).on fun x s1 => (mb env s1).on fun y s2 => (f x y s2).on fun r s3 => chK g mc env y r s3 := by
  show (ma env >>= _) s = _
  rw [bind_on]
  congr 1
  funext x s1
  rw [bind_on]
  congr 1
  funext y s2
  rw [bind_on]
  congr 1
  funext r s3
  cases r with
  | bl b =>
    cases b with
    | true => exact bind_on _ _ _
    | false => rfl
  | _ => rfl
theorem truM_run : truM ma env s = (ma env s).on fun d s1 => truD d s1 := bind_on _ _ _
theorem andM_run : andM ma mb env s = (ma env s).on fun x s1 => (truD x s1).on fun k s2 => if k = true then mb env s2 else .ok x s2 := by
  show (ma env >>= _) s = _
  rw [bind_on]
  congr 1
  funext x s1
  rw [bind_on]
  congr 1
  funext k s2
  cases k <;> rfl
theorem orM_run : orM ma mb env s = (ma env s).on fun x s1 => (truD x s1).on fun k s2 => if k = true then .ok x s2 else mb env s2 := by
  show (ma env >>= _) s = _
  rw [bind_on]
  congr 1
  funext x s1
  rw [bind_on]
  congr 1
  funext k s2
  cases k <;> rfl
theorem notM_run : notM ma env s = (ma env s).on fun x s1 => (truD x s1).on fun k s2 => .ok (.bl (!k)) s2 := by
  show (ma env >>= _) s = _
  rw [bind_on]
  congr 1
theorem andT_run : andT ta tb env s = (ta env s).on fun k s2 => if k = true then tb env s2 else .ok false s2 := by
  show (ta env >>= _) s = _
  rw [bind_on]
  congr 1
  funext k s2
  cases k <;> rfl
theorem orT_run : orT ta tb env s = (ta env s).on fun k s2 => if k = true then .ok true s2 else tb env s2 := by
  show (ta env >>= _) s = _
  rw [bind_on]
  congr 1
  funext k s2
  cases k <;> rfl
theorem notT_run : notT ta env s = (ta env s).on fun k s2 => .ok (!k) s2 := bind_on _ _ _
theorem ifM_run : ifM ta ma mb env s = (ta env s).on fun k s2 => if k = true then ma env s2 else mb env s2 := by
  show (ta env >>= _) s = _
  rw [bind_on]
  congr 1
  funext k s2
  cases k <;> rfl
theorem nilA_run : nilA env s = .ok [] s := rfl
theorem consA_run : consA ma mr env s = (ma env s).on fun d s1 => (mr env s1).on fun ds s2 => .ok (d :: ds) s2 := by
  show (ma env >>= _) s = _
  rw [bind_on]
  congr 1
def tupK (ds : List D) (s : S) : R D := if ds.length ≤ 100000 then .ok (.tup ds) s else .stuck
def lstK (ds : List D) (s : S) : R D := if ds.length ≤ 100000 then .ok (.ptr s.length) (s ++ [.lst ds]) else .stuck
theorem tupM_run : tupM mr env s = (mr env s).on tupK := by
  show (mr env >>= _) s = _
  rw [bind_on]
  congr 1
  funext ds s1
  unfold tupK
  by_cases h : ds.length ≤ 100000
  · rw [if_pos h, if_pos h]
    rfl
  · rw [if_neg h, if_neg h]
    rfl
theorem lstM_run : lstM mr env s = (mr env s).on lstK := by
  show (mr env >>= _) s = _
  rw [bind_on]
  congr 1
  funext ds s1
  unfold lstK
  by_cases h : ds.length ≤ 100000
  · rw [if_pos h, if_pos h]
    rfl
  · rw [if_neg h, if_neg h]
    rfl
theorem tupK_1 (a : D) : tupK [a] s = .ok (.tup [a]) s := rfl
theorem tupK_2 (a b : D) : tupK [a, b] s = .ok (.tup [a, b]) s := rfl
theorem tupK_3 (a b c : D) : tupK [a, b, c] s = .ok (.tup [a, b, c]) s := rfl
theorem tupK_4 (a b c d : D) : tupK [a, b, c, d] s = .ok (.tup [a, b, c, d]) s := rfl
theorem tupK_le {ds : List D} (h : ds.length ≤ 100000) : tupK ds s = .ok (.tup ds) s := if_pos h
theorem lstK_le {ds : List D} (h : ds.length ≤ 100000) : lstK ds s = .ok (.ptr s.length) (s ++ [.lst ds]) := if_pos h
theorem callM_run : callM fl mr env s = (mr env s).on fun ds s1 => fl ds s1 := bind_on _ _ _
theorem cM_run (d : D) : cM d env s = .ok d s := rfl
def varK (o : Option (Option D)) (s : S) : R D := match o with
  | some (some d) => .ok d s
  | _ => .stuck
theorem varK_ok (d : D) : varK (some (some d)) s = .ok d s := rfl
theorem varM_run : varM i env s = varK env[i]? s := by
  unfold varM
  cases e : env[i]? with
  | none => rfl
  | some o =>
    cases o with
    | none => rfl
    | some d => rfl
theorem yesT_run : yesT env s = .ok true s := rfl

/-! ### operators -/
theorem addD_int (a b : Int) : addD (.int a) (.int b) s = .ok (.int (a + b)) s := rfl
theorem subD_int (a b : Int) : subD (.int a) (.int b) s = .ok (.int (a - b)) s := rfl
theorem mulD_int {a b : Int} (h : MulOk a b) : mulD (.int a) (.int b) s = .ok (.int (a * b)) s := by
  show (if MulOk a b then (Pure.pure (D.int (a * b)) : M D) else stuck) s = _
  rw [if_pos h]
  rfl
theorem modD_pos {a b : Int} (h : 0 < b) : modD (.int a) (.int b) s = .ok (.int (a % b)) s := by
  show (if b = 0 then (stuck : M D) else Pure.pure (.int (if 0 < b then a % b else a.fmod b))) s = _
  rw [if_neg (by omega), if_pos h]
  rfl
theorem fdivD_pos {a b : Int} (h : 0 < b) (k : Bt 9000 b) : fdivD (.int a) (.int b) s = .ok (.int (a / b)) s := by
  show (if DivOk b then (if b = 0 then (stuck : M D) else Pure.pure (.int (if 0 < b then a / b else a.fdiv b))) else stuck) s = _
  rw [if_pos ⟨k⟩, if_neg (by omega), if_pos h]
  rfl
theorem fdivD_dvd {a b : Int} (h : b ≠ 0) (k : Bt 9000 b) (d : b ∣ a) : fdivD (.int a) (.int b) s = .ok (.int (a / b)) s := by
  show (if DivOk b then (if b = 0 then (stuck : M D) else Pure.pure (.int (if 0 < b then a / b else a.fdiv b))) else stuck) s = _
  rw [if_pos ⟨k⟩, if_neg h, Int.fdiv_eq_ediv_of_dvd d]
  split <;> rfl
theorem powD_ok {a b : Int} (h : (0 ≤ b ∧ b ≤ 1000) ∧ (-18446744073709551616 < a ∧ a < 18446744073709551616)) : powD (.int a) (.int b) s = .ok (.int (a ^ b.toNat)) s := by
  show (if PowOk a b then (Pure.pure (D.int (a ^ b.toNat)) : M D) else stuck) s = _
  rw [if_pos ⟨h⟩]
  rfl
theorem negD_int (a : Int) : negD (.int a) s = .ok (.int (-a)) s := rfl
theorem ltD_int (a b : Int) : ltD (.int a) (.int b) s = .ok (.bl (decide (a < b))) s := rfl
theorem leD_int (a b : Int) : leD (.int a) (.int b) s = .ok (.bl (decide (a ≤ b))) s := rfl
theorem gtD_int (a b : Int) : gtD (.int a) (.int b) s = .ok (.bl (decide (b < a))) s := rfl
theorem geD_int (a b : Int) : geD (.int a) (.int b) s = .ok (.bl (decide (b ≤ a))) s := rfl
theorem eqD_int (a b : Int) : eqD (.int a) (.int b) s = .ok (.bl (decide (a = b))) s := rfl
theorem eqD_bl (a b : Bool) : eqD (.bl a) (.bl b) s = .ok (.bl (decide (a = b))) s := rfl
theorem eqD_str (a b : Str) : eqD (.str a) (.str b) s = .ok (.bl (decide (a = b))) s := rfl
theorem neD_run (x y : D) : neD x y s = (eqD x y s).on fun d s1 => match d with
  | .bl b => .ok (.bl (!b)) s1
  | _ => .stuck := by
  show (eqD x y >>= _) s = _
  rw [bind_on]
  congr 1
  funext d s1
  cases d <;> rfl
theorem neD_int (a b : Int) : neD (.int a) (.int b) s = .ok (.bl (!decide (a = b))) s := rfl
theorem neD_bl (a b : Bool) : neD (.bl a) (.bl b) s = .ok (.bl (!decide (a = b))) s := rfl
theorem isnD_non : isnD .non s = .ok (.bl true) s := rfl
theorem isnD_int (a : Int) : isnD (.int a) s = .ok (.bl false) s := rfl
theorem isnD_bl (a : Bool) : isnD (.bl a) s = .ok (.bl false) s := rfl
theorem isnD_str (a : Str) : isnD (.str a) s = .ok (.bl false) s := rfl
theorem isnD_tup (a : List D) : isnD (.tup a) s = .ok (.bl false) s := rfl
theorem isnD_ptr (a : Nat) : isnD (.ptr a) s = .ok (.bl false) s := rfl
theorem isbD_bl (a b : Bool) : isbD (.bl a) (.bl b) s = .ok (.bl (decide (a = b))) s := rfl
theorem notbD_bl (a b : Bool) : notbD (.bl a) (.bl b) s = .ok (.bl (!decide (a = b))) s := rfl
theorem truD_bl (b : Bool) : truD (.bl b) s = .ok b s := rfl
theorem truD_int (b : Int) : truD (.int b) s = .ok (b != 0) s := rfl
theorem and_bl (k c : Bool) : (if k = true then (R.ok (D.bl c) s : R D) else R.ok (D.bl k) s) = R.ok (D.bl (k && c)) s := by cases k <;> rfl
theorem or_bl (k c : Bool) : (if k = true then (R.ok (D.bl k) s : R D) else R.ok (D.bl c) s) = R.ok (D.bl (k || c)) s := by cases k <;> rfl
theorem and_tt (k c : Bool) : (if k = true then (R.ok c s : R Bool) else R.ok false s) = R.ok (k && c) s := by cases k <;> rfl
theorem or_tt (k c : Bool) : (if k = true then (R.ok true s : R Bool) else R.ok c s) = R.ok (k || c) s := by cases k <;> rfl
theorem fun1_run (d : D) : fun1 h [d] s = h d s := rfl
theorem fun2_run (d e : D) : fun2 f [d, e] s = f d e s := rfl
theorem intD_int (a : Int) : intD (.int a) s = .ok (.int a) s := rfl
theorem intD_bl (a : Bool) : intD (.bl a) s = .ok (.int (if a then 1 else 0)) s := rfl
theorem absD_int (a : Int) : absD (.int a) s = .ok (.int (if a < 0 then -a else a)) s := rfl
theorem gcdD_int (a b : Int) : gcdD (.int a) (.int b) s = .ok (.int ((Nat.gcd a.natAbs b.natAbs : Nat) : Int)) s := rfl
theorem lenD_tup (ds : List D) : lenD (.tup ds) s = .ok (.int (ds.length : Int)) s := rfl
def atK (o : Option D) (s : S) : R D := match o with
  | some d => .ok d s
  | none => .stuck
theorem atK_some (d : D) : atK (some d) s = .ok d s := rfl
theorem ixS_int (ds : List D) (a : Int) : ixS ds (.int a) s = atK (atI ds a) s := by
  show (match atI ds a with
    | some d => (Pure.pure d : M D)
    | none => stuck) s = _
  cases atI ds a <;> rfl
theorem ixD_tup (ds : List D) (y : D) : ixD (.tup ds) y s = ixS ds y s := rfl
theorem ixD_flst (ds : List D) (y : D) : ixD (.flst ds) y s = ixS ds y s := rfl
theorem ixD_lst {k : Nat} {ds : List D} (e : s[k]? = some (.lst ds)) (y : D) : ixD (.ptr k) y s = ixS ds y s := by
  show (match s[k]? with
    | some (.lst ds) => ixS ds y s
    | some (.dK kvs) => ixK kvs y s
    | some (.fK kvs) => ixK kvs y s
    | _ => .stuck) = _
  rw [e]
theorem atI_nat {ds : List D} {k : Nat} {d : D} (e : ds[k]? = some d) : atI ds (k : Int) = some d := L2.atI_nat e
theorem at0 (a : D) (ds : List D) : atI (a :: ds) 0 = some a := L2.atI_nat (j := 0) rfl
theorem at1 (a b : D) (ds : List D) : atI (a :: b :: ds) 1 = some b := L2.atI_nat (j := 1) rfl
theorem at2 (a b c : D) (ds : List D) : atI (a :: b :: c :: ds) 2 = some c := L2.atI_nat (j := 2) rfl
theorem at3 (a b c d : D) (ds : List D) : atI (a :: b :: c :: d :: ds) 3 = some d := L2.atI_nat (j := 3) rfl
theorem lenD_lst {k : Nat} {ds : List D} (e : s[k]? = some (.lst ds)) : lenD (.ptr k) s = .ok (.int (ds.length : Int)) s := by
  show (match s[k]? with
    | some (.lst ds) => R.ok (D.int ds.length) s
    | some (.dK kvs) => .ok (.int kvs.length) s
    | _ => .stuck) = _
  rw [e]

/-! ### statements -/
theorem fnM_run (N : Nat) (ds : List D) : fnM N m ds s = (m (startE N ds) s).on fun o s1 => outM o s1 := bind_on _ _ _
theorem outM_rt (d : D) : outM (.rt d) s = .ok d s := rfl
theorem outM_nx (e : Env) : outM (.nx e) s = .ok .non s := rfl
theorem lenM_run {k : Nat} {ds : List D} (e : ds.length = k) : lenM k fl ds s = fl ds s := by
  show (if ds.length = k then fl ds else stuck) s = _
  rw [if_pos e]
theorem lenM0 : lenM 0 fl [] s = fl [] s := rfl
theorem lenM1 (a : D) : lenM 1 fl [a] s = fl [a] s := rfl
theorem lenM2 (a b : D) : lenM 2 fl [a, b] s = fl [a, b] s := rfl
theorem lenM3 (a b c : D) : lenM 3 fl [a, b, c] s = fl [a, b, c] s := rfl
theorem lenM4 (a b c d : D) : lenM 4 fl [a, b, c, d] s = fl [a, b, c, d] s := rfl
theorem lenM5 (a b c d e : D) : lenM 5 fl [a, b, c, d, e] s = fl [a, b, c, d, e] s := rfl
def seqK (n : Env → M Out) (o : Out) (s : S) : R Out := match o with
  | .nx env' => n env' s
  | .rt d => .ok (.rt d) s
  | .bk e => .ok (.bk e) s
  | .ct e => .ok (.ct e) s
theorem seqK_nx (e : Env) : seqK n (.nx e) s = n e s := rfl
theorem seqK_rt (d : D) : seqK n (.rt d) s = .ok (.rt d) s := rfl
theorem seqK_bk (e : Env) : seqK n (.bk e) s = .ok (.bk e) s := rfl
theorem seqK_ct (e : Env) : seqK n (.ct e) s = .ok (.ct e) s := rfl
theorem seqS_run : seqS m n env s = (m env s).on (seqK n) := by
  show (m env >>= _) s = _
  rw [bind_on]
  congr 1
  funext o s1
  cases o <;> rfl
theorem setS_run : setS i ma env s = (ma env s).on fun d s1 => .ok (.nx (env.set i (some d))) s1 := bind_on _ _ _
theorem dropS_run : dropS ma env s = (ma env s).on fun _ s1 => .ok (.nx env) s1 := bind_on _ _ _
theorem retS_run : retS ma env s = (ma env s).on fun d s1 => .ok (.rt d) s1 := bind_on _ _ _
theorem nxS_run : nxS env s = .ok (.nx env) s := rfl
theorem ifS_run : ifS ta m n env s = (ta env s).on fun k s1 => if k = true then m env s1 else n env s1 := by
  show (ta env >>= _) s = _
  rw [bind_on]
  congr 1
  funext k s1
  cases k <;> rfl
theorem asgS_run (gg : D → Env → M Env) : asgS ma gg env s = (ma env s).on fun d s1 => (gg d env s1).on fun e s2 => .ok (.nx e) s2 := by
  show (ma env >>= _) s = _
  rw [bind_on]
  congr 1
theorem gNm_run (d : D) : gNm i d env s = .ok (env.set i (some d)) s := rfl
theorem gNilM_run : gNilM [] env s = .ok env s := rfl
theorem gConsM_run (g1 : D → Env → M Env) (gs : List D → Env → M Env) (d : D) (r : List D) : gConsM g1 gs (d :: r) env s = (g1 d env s).on fun e s1 => gs r e s1 := bind_on _ _ _
theorem gTupM_run {k : Nat} (gs : List D → Env → M Env) {ds : List D} (e : ds.length = k) : gTupM k gs (.tup ds) env s = gs ds env s := by
  show (if ds.length = k then gs ds env else stuck) s = _
  rw [if_pos e]
theorem gTup2 (gs : List D → Env → M Env) (a b : D) : gTupM 2 gs (.tup [a, b]) env s = gs [a, b] env s := rfl
theorem gTup3 (gs : List D → Env → M Env) (a b c : D) : gTupM 3 gs (.tup [a, b, c]) env s = gs [a, b, c] env s := rfl
theorem gSubM_run (mo mi : Env → M D) (ff : D → D → D → M Unit) (v : D) : gSubM mo mi ff v env s = (mo env s).on fun o s1 => (mi env s1).on fun x s2 => (ff o x v s2).on fun _ s3 => .ok env s3 := by
  show (mo env >>= _) s = _
  rw [bind_on]
  congr 1
theorem setLD_nat {k j : Nat} {ds : List D} (e : s[k]? = some (.lst ds)) (h : j < ds.length) (v : D) : setLD (.ptr k) (.int (j : Int)) v s = .ok () (s.set k (.lst (ds.set j v))) := by
  show (match s[k]? with
    | some (.lst ds) => putL ds (.int (j : Int)) v k s
    | _ => .stuck) = _
  rw [e]
  show (match ixN ds.length (j : Int) with
    | some j => (fun (s : S) => R.ok () (s.set k (.lst (ds.set j v))))
    | none => (stuck : M Unit)) s = _
  have e1 : ixN ds.length (j : Int) = some j := by
    unfold ixN
    rw [if_pos (by omega), if_pos (by omega)]
    simp
  rw [e1]
theorem parS_run : parS i j ma mb env s = (ma env s).on fun a s1 => (mb env s1).on fun b s2 => .ok (.nx ((env.set i (some a)).set j (some b))) s2 := by
  show (ma env >>= _) s = _
  rw [bind_on]
  congr 1
theorem forS_run (mi : Env → M Src) (gg : D → Env → M Env) : forS mi gg m env s = (mi env s).on fun r s1 => loopM r gg m r.items env s1 := bind_on _ _ _
theorem srcM_run : srcM ma env s = (ma env s).on fun d s1 => srcD d s1 := bind_on _ _ _
theorem srcA_run (fs : List D → M Src) : srcA fs mr env s = (mr env s).on fun d s1 => fs d s1 := bind_on _ _ _
theorem srcD_str (x : Str) : srcD (.str x) s = .ok ⟨signsOf x, none⟩ s := rfl
theorem srcD_tup (ds : List D) : srcD (.tup ds) s = .ok ⟨ds, none⟩ s := rfl
theorem srcD_flst (ds : List D) : srcD (.flst ds) s = .ok ⟨ds, none⟩ s := rfl
theorem srcD_lst {k : Nat} {ds : List D} (e : s[k]? = some (.lst ds)) : srcD (.ptr k) s = .ok ⟨ds, some (k, ds)⟩ s := by
  show (match s[k]? with
    | some (.lst ds) => R.ok (⟨ds, some (k, ds)⟩ : Src) s
    | _ => .stuck) = _
  rw [e]
theorem rng1_run {a : Int} (h : -4000000000 ≤ a ∧ a ≤ 4000000000) : rng1D [.int a] s = .ok ⟨rngItems 0 a.toNat, none⟩ s := by
  show (if -4000000000 ≤ a ∧ a ≤ 4000000000 then (Pure.pure (⟨rngItems 0 a.toNat, none⟩ : Src) : M Src) else stuck) s = _
  rw [if_pos h]
  rfl
theorem guard_none (ds : List D) : guardM ⟨ds, none⟩ s = .ok () s := if_pos (show True from trivial)
theorem guard_pos {r : Src} {s : S} (h : r.Ok s) : guardM r s = .ok () s := if_pos h
noncomputable def lpK (r : Src) (gg : D → Env → M Env) (b : Env → M Out) (ds : List D) (o : Out) (s : S) : R Out := match o with
  | .nx e => loopM r gg b ds e s
  | .ct e => loopM r gg b ds e s
  | .bk e => .ok (.nx e) s
  | .rt d => .ok (.rt d) s
theorem loop_nil (r : Src) (gg : D → Env → M Env) : loopM r gg m [] env s = (guardM r s).on fun _ s1 => .ok (.nx env) s1 := bind_on _ _ _
theorem loop_cons (r : Src) (gg : D → Env → M Env) (d : D) (ds : List D) : loopM r gg m (d :: ds) env s = (guardM r s).on fun _ s1 => (gg d env s1).on fun e s2 => (m e s2).on (lpK r gg m ds) := by
  show (guardM r >>= _) s = _
  rw [bind_on]
  congr 1
  funext u s1
  rw [bind_on]
  congr 1
  funext e s2
  rw [bind_on]
  congr 1
  funext o s3
  cases o <;> rfl
/-- a loop by a word that every turn keeps -/
theorem loop_all {r : Src} {gg : D → Env → M Env} {b : Env → M Out} (I : Nat → Env → S → Prop) (ok : ∀ i env s, I i env s → r.Ok s)
    (turn : ∀ i d env s, r.items[i]? = some d → I i env s → ∃ env' s', ((gg d env s).on fun e s2 => b e s2) = .ok (.nx env') s' ∧ I (i + 1) env' s') :
    ∀ (ds : List D) (i : Nat) (env : Env) (s : S), r.items.drop i = ds → i ≤ r.items.length → I i env s → ∃ env' s', loopM r gg b ds env s = .ok (.nx env') s' ∧ I r.items.length env' s'
  | [], i, env, s, hd, hi, h => by
    have e : r.items.length ≤ i := List.drop_eq_nil_iff.mp hd
    have e2 : i = r.items.length := by omega
    subst e2
    exact ⟨env, s, by rw [loop_nil, guard_pos (ok _ _ _ h)]; rfl, h⟩
  | d :: ds, i, env, s, hd, hi, h => by
    have hl : i < r.items.length := by
      have := congrArg List.length hd
      rw [List.length_drop, List.length_cons] at this
      omega
    have h1 : r.items[i]? = some d := by
      have := congrArg (fun l => l[0]?) hd
      simpa [List.getElem?_drop] using this
    have h2 : r.items.drop (i + 1) = ds := by
      have := congrArg List.tail hd
      rw [List.tail_drop] at this
      exact this
    obtain ⟨env', s', e1, h'⟩ := turn i d env s h1 h
    obtain ⟨env2, s2, e2, h3⟩ := loop_all I ok turn ds (i + 1) env' s' h2 hl h'
    refine ⟨env2, s2, ?_, h3⟩
    rw [loop_cons, guard_pos (ok _ _ _ h), on_ok]
    cases eg : gg d env s with
    | stuck => rw [eg] at e1; cases e1
    | exc c s1 => rw [eg] at e1; cases e1
    | ok e s1 =>
      rw [eg, on_ok] at e1
      rw [on_ok, e1, on_ok]
      exact e2
end
theorem rng_at {lo : Int} {n i : Nat} {d : D} (h : (rngItems lo n)[i]? = some d) : i < n ∧ d = .int (lo + (i : Int)) := by
  unfold rngItems at h
  rw [List.getElem?_map] at h
  by_cases hi : i < n
  · rw [List.getElem?_range hi] at h
    cases h
    exact ⟨hi, rfl⟩
  · rw [List.getElem?_eq_none (by rw [List.length_range]; omega)] at h
    cases h
theorem rng_len (lo : Int) (n : Nat) : (rngItems lo n).length = n := by
  unfold rngItems
  rw [List.length_map, List.length_range]
end PL

/-! PL8: sorted(dict(xs)) of a list of pairs (pair of integers, thing). -/
namespace PL
open PySem PySem.Spec PyProof.Rows L2

section
variable {prog : Program} {w : World} {A : Around} {E : Value → Shared → Prop}
abbrev KH := List L2.Key × Addr × Value
def mergedH (acc : List KH) : List KH → List KH
  | [] => acc
  | q :: r => mergedH (storedH acc q.1 q.2.1 q.2.2) r
theorem storedH_le (acc : List KH) (k : List L2.Key) (a : Addr) (v : Value) : (storedH acc k a v).length ≤ acc.length + 1 := by
  unfold storedH
  split
  · rw [List.length_map]
    exact Nat.le_succ _
  · rw [List.length_append]
    exact Nat.le_refl _
theorem mergedH_le : ∀ (r acc : List KH), (mergedH acc r).length ≤ acc.length + r.length
  | [], acc => Nat.le_refl _
  | q :: r, acc => by
    have h := mergedH_le r (storedH acc q.1 q.2.1 q.2.2)
    have h2 := storedH_le acc q.1 q.2.1 q.2.2
    show (mergedH (storedH acc q.1 q.2.1 q.2.2) r).length ≤ acc.length + (r.length + 1)
    omega
theorem dh_move {h h' : Heap} {d : Addr} {xs : List KH} (hm : h.DictOfH (tupleKind (mixKind prog w)) d xs) (k : ∀ b o, h.get? b = some o → (b = d ∨ o.cls = .type "tuple") → h'.get? b = some o) : h'.DictOfH (tupleKind (mixKind prog w)) d xs := by
  obtain ⟨o, es, ep, ho, hx, hd, he, hk, hn⟩ := hm
  refine ⟨o, es, ep, k d o ho (.inl rfl), hx, hd, he, fun x hx => ?_, hn⟩
  obtain ⟨o2, items, n, h1, h2, h3, h4⟩ := hk x hx
  exact ⟨o2, items, n, k _ _ h1 (.inr h2), h2, h3, h4⟩
theorem ne_iter {h : Heap} {I l : Addr} {i : Nat} (hit : h.IsListIter I l i) {b : Addr} {o : Obj} (hb : h.get? b = some o) (hc : o.cls = .type "tuple") : b ≠ I := fun e => by
  subst e
  obtain ⟨o', h1, h2, _⟩ := hit
  rw [hb] at h1
  cases h1
  rw [hc] at h2
  exact absurd (Value.type.inj h2) (by decide)
/-- the walk over the pairs, keys being tuples -/
theorem updH_loop {R : Result → Shared → Prop} {S I l : Addr} {items : Array Value} {res : Value} (hu : A.units + 2 < cLine) (hh : A.handled = none) (hlI : l ≠ I) (hSI : S ≠ I) (hSl : S ≠ l) :
    ∀ (rest : List KH) (i : Nat) (acc : List KH) (ix : Int) (t : Tok) (s : Shared), items.size = i + rest.length → acc.length + rest.length ≤ sizeLine →
      (∀ (j : Nat) (q : KH), rest[j]? = some q → ∃ (b : Addr), items[i + j]? = some (.ref b) ∧ b ≠ S ∧ IsTup s.heap b #[.ref q.2.1, q.2.2] ∧ IsTupleKey (mixKind prog w) s.heap q.1 q.2.1 ∧ q.2.1 ≠ S) →
      s.heap.IsListIter I l i → s.heap.IsList l items → s.heap.DictOfH (tupleKind (mixKind prog w)) S acc →
      (∀ h' tk, h'.DictOfH (tupleKind (mixKind prog w)) S (mergedH acc rest) → (∀ b o, b ≠ S → b ≠ I → s.heap.get? b = some o → h'.get? b = some o) → R (.ok (.ret res)) { s with heap := h', toks := tk }) →
      codeAny (model prog w) A (.builtin "dict.update.loop" ⟨[.ref S, .ref I, .int ix t, res], []⟩) R s
  | [], i, acc, ix, t, s, hsz, hln, ht, hit, hl, hm, hR => by
    refine codeAny_builtin ud_entry ?_
    rw [Around.under_plainId ud_plain _]
    show wpAny _ A.in1 (pyNext (.ref I) >>= _) _ _ s
    refine wpAny_bind (wpAny_pyNext_list_end (A := A.in1) hh hit hl (by first | exact Array.getElem?_eq_none (Nat.le_of_eq hsz) | (simp at hsz; simp; omega)) fun h' he => ?_)
    show wpAny _ A.in1 (Builtin.Dict.addKeywords S [] >>= _) _ _ _
    refine wpAny_bind (wpAny_pure (wpAny_pure ?_))
    refine hR h' s.toks (dh_move hm fun b o e c => he b o ?_ e) fun b o _ hb e => he b o hb e
    rcases c with c | c
    · rw [c]
      exact hSI
    · exact ne_iter hit e c
  | q :: rest, i, acc, ix, t, s, hsz, hln, ht, hit, hl, hm, hR => by
    obtain ⟨b, hb, hbS, htup, hk, hkS⟩ := ht 0 q rfl
    rw [List.length_cons] at hsz hln
    refine codeAny_builtin ud_entry ?_
    rw [Around.under_plainId ud_plain _]
    show wpAny _ A.in1 (pyNext (.ref I) >>= _) _ _ s
    refine wpAny_bind (wpAny_pyNext_list_item (x := .ref b) hit hl (by simpa using hb) fun h1 hit1 hs1 => ?_)
    have up1 : ∀ b o, s.heap.get? b = some o → o.cls = .type "tuple" → h1.get? b = some o := fun b o e c => hs1.extBut b o (ne_iter hit e c) e
    have ht1 : IsTup h1 b #[.ref q.2.1, q.2.2] := by
      obtain ⟨o, ho, hc, r⟩ := htup
      exact ⟨o, up1 b o ho hc, hc, r⟩
    have hk1 : IsTupleKey (mixKind prog w) h1 q.1 q.2.1 := by
      obtain ⟨o, its, n, ho, hc, r⟩ := hk
      exact ⟨o, its, n, up1 _ o ho hc, hc, r⟩
    have hl1 : h1.IsList l items := hl.extBut hs1.extBut hlI
    have hm1 : h1.DictOfH (tupleKind (mixKind prog w)) S acc := dh_move hm fun b o e c => by
      rcases c with c | c
      · exact hs1.extBut b o (by rw [c]; exact hSI) e
      · exact up1 b o e c
    obtain ⟨o, ho, hc, n, hd⟩ := id ht1
    show wpAny _ A.in1 (holding [Value.ref b] _ >>= _) _ _ _
    refine wpAny_bind (wpAny_holding ?_)
    refine wpAny_bind (wpAny_tryCatch ?_)
    unfold Builtin.Dict.pairItems
    refine wpAny_bind (wpAny_typeOf (T := "tuple") ⟨o, ho, hc⟩ ?_)
    rw [if_pos (by first | decide | rfl | simp)]
    refine wpAny_bind (wpAny_seqItems ho hd (wpAny_pure ?_))
    show wpAny _ A.in1 (holding [.ref q.2.1, q.2.2] (dictSet S (.ref q.2.1) q.2.2)) _ _ _
    refine wpAny_holding (wpAny_dictSet_heap (knd := tupleKind (mixKind prog w)) (k := q.1) (hsz := by omega) (show (tupleKind (mixKind prog w)).room A.in1 from tupleKind_room_in1 (by omega)) hk1 hm1 fun h2 hm2 hs2 => ?_)
    refine wpAny_pure ⟨plainId_quiet ud_plain _, updH_loop (items := items) hu hh hlI hSI hSl rest (i + 1) (storedH acc q.1 q.2.1 q.2.2) (ix + 1) 0 _ (show items.size = i + 1 + rest.length by omega) ?_ (fun j q' e => ?_) ?_ ?_ hm2 fun h' tk hd' k => ?_⟩
    · have z := storedH_le acc q.1 q.2.1 q.2.2
      omega
    · obtain ⟨b', hb', hbS', htup', hk', hkS'⟩ := ht (j + 1) q' (by simpa using e)
      refine ⟨b', ?_, hbS', ?_, ?_, hkS'⟩
      · rw [show i + 1 + j = i + (j + 1) by omega]
        exact hb'
      · obtain ⟨o, ho, hc, r⟩ := htup'
        exact ⟨o, hs2.extBut _ _ hbS' (up1 _ _ ho hc), hc, r⟩
      · obtain ⟨o, its, n, ho, hc, r⟩ := hk'
        exact ⟨o, its, n, hs2.extBut _ _ hkS' (up1 _ _ ho hc), hc, r⟩
    · exact hit1.at fun o' e => hs2.extBut I o' (Ne.symm hSI) e
    · exact hl1.extBut hs2.extBut (Ne.symm hSl)
    · exact hR h' tk hd' fun c oc h3 h4 e => k c oc h3 h4 (hs2.extBut c oc h3 (hs1.extBut c oc h4 e))
/-- dict(l) of a list of pairs, the keys being tuples -/
theorem call_dict_tups {s : Shared} {l : Addr} {ol : Obj} {items : Array Value} {n : Nat} {prs : List KH} {Q : Value → Shared → Prop} (hu : A.units + 8 < cLine) (hh : A.handled = none) (hl : s.heap.get? l = some ol) (hc : ol.cls = .type "list") (hd : ol.dict = none)
    (hdat : ol.data = .seq items n) (hsz : items.size = prs.length) (hln : prs.length ≤ sizeLine)
    (ht : ∀ (j : Nat) (q : KH), prs[j]? = some q → ∃ (b : Addr), items[j]? = some (.ref b) ∧ IsTup s.heap b #[.ref q.2.1, q.2.2] ∧ IsTupleKey (mixKind prog w) s.heap q.1 q.2.1)
    (h : ∀ h' tk, h'.DictOfH (tupleKind (mixKind prog w)) s.heap.objs.size (mergedH [] prs) → (∀ b o, s.heap.get? b = some o → h'.get? b = some o) → Q (.ref s.heap.objs.size) { s with heap := h', toks := tk }) :
    wpAny (model prog w) A (call (.type "dict") [.ref l]) Q E s := by
  refine callType_codes (Q₁ := fun obj s₁ => obj = .ref s.heap.objs.size ∧ s₁ = { s with heap := s.heap.push { cls := .type "dict", data := .dict #[] } }) PySem.F.kt_called_dict (PySem.F.kt_typeCall_dict_1 _) PySem.F.entry_dict_init (kt_code_dict_new _ ⟨rfl, rfl⟩) ?_
  rintro obj s₁ ⟨rfl, rfl⟩
  have hnew : (s.heap.push { cls := .type "dict", data := .dict #[] }).DictOfH (tupleKind (mixKind prog w)) s.heap.objs.size [] := Heap.DictOfH.new s.heap
  have k0 : ∀ b o, s.heap.get? b = some o → (s.heap.push { cls := .type "dict", data := .dict #[] }).get? b = some o := fun b o e => Heap.get?_push_of_some _ e
  have hty : ({ s with heap := s.heap.push { cls := .type "dict", data := .dict #[] } } : Shared).TypeIs (.ref s.heap.objs.size) "dict" := Heap.DictOfH.typeIs (knd := tupleKind (mixKind prog w)) (s := { s with heap := s.heap.push { cls := .type "dict", data := .dict #[] } }) hnew
  refine ⟨hty, PySem.F.args_dict_init_2 _ _, ?_⟩
  unfold Builtin.«dict.__init__»
  refine wpAny_bind ?_
  unfold Builtin.Dict.selfAndRest
  refine wpAny_bind (wpAny_notOrdered_dict hty ?_)
  show wpAny _ _ (pure (s.heap.objs.size, [Value.ref l])) _ _ _
  refine wpAny_pure ?_
  show wpAny _ _ (Builtin.Dict.updateFrom "dict.__init__" s.heap.objs.size (.ref l) [] .none) _ _ _
  unfold Builtin.Dict.updateFrom
  refine wpAny_bind (wpAny_typeOf (T := "list") ⟨ol, k0 _ _ hl, hc⟩ ?_)
  rw [if_pos (by first | decide | rfl | simp)]
  refine wpAny_bind (miss_list (k0 _ _ hl) hc hdat hd hh fun h1 tk1 hk1 => ?_)
  rw [if_pos (show (none : Option Value).isNone = true from rfl)]
  refine wpAny_bind (wpAny_rule ?_)
  have hl1 : h1.IsList l items := ⟨ol, hk1 _ _ (k0 _ _ hl), hc, n, hdat⟩
  have hS1 : s.heap.objs.size < h1.objs.size := by
    have e : (s.heap.push { cls := .type "dict", data := .dict #[] }).get? s.heap.objs.size = some { cls := .type "dict", data := .dict #[] } := Heap.get?_push_size _ rfl
    exact Heap.lt_size (hk1 _ _ e)
  refine wpAny_bind (wpAny_pyIter_list hl1 ?_)
  have k2 : ∀ b o, h1.get? b = some o → (h1.push { cls := .type "list_iterator", data := .fields #[.ref l, .int 0 0] }).get? b = some o := fun b o e => Heap.get?_push_of_some _ e
  have hlt : l < s.heap.objs.size := Heap.lt_size hl
  have key := updH_loop (prog := prog) (w := w) (A := A.in1) (R := wants (fun r s₂ => r = .none ∧ Q (.ref s.heap.objs.size) s₂) E) (S := s.heap.objs.size) (I := h1.objs.size) (l := l) (items := items) (res := Value.none) (show A.units + 1 + 2 < cLine by omega) hh
    (Nat.ne_of_lt (Nat.lt_trans hlt hS1)) (Nat.ne_of_lt hS1) (Nat.ne_of_gt hlt) prs 0 [] 0 0
    { s with heap := h1.push { cls := .type "list_iterator", data := .fields #[.ref l, .int 0 0] }, toks := tk1 } (by rw [hsz, Nat.zero_add]) (by rw [List.length_nil, Nat.zero_add]; exact hln)
    (fun j q e => by
      obtain ⟨b, e1, e2, e3⟩ := ht j q e
      have hb : b < s.heap.objs.size := e2.lt
      obtain ⟨o, its, n3, ho, r⟩ := e3
      exact ⟨b, by rw [Nat.zero_add]; exact e1, Nat.ne_of_lt hb, e2.keeps fun c o z => k2 _ _ (hk1 _ _ (k0 _ _ z)), ⟨o, its, n3, k2 _ _ (hk1 _ _ (k0 _ _ ho)), r⟩, Nat.ne_of_lt (Heap.lt_size ho)⟩)
    ⟨_, Heap.get?_push_size _ rfl, rfl, rfl⟩ (hl1.at fun o e => k2 _ _ e) (dh_move hnew fun b o e _ => k2 _ _ (hk1 _ _ e))
    (fun h' tk hd' k => ⟨rfl, h h' tk hd' fun b o e => k b o (Nat.ne_of_lt (Heap.lt_size e)) (Nat.ne_of_lt (Nat.lt_trans (Heap.lt_size e) hS1)) (k2 _ _ (hk1 _ _ (k0 _ _ e)))⟩)
  first
    | exact wpAny_pure ⟨plainId_quiet ud_plain _, key⟩
    | exact wpAny_bind (wpAny_pure (wpAny_pure ⟨plainId_quiet ud_plain _, key⟩))
end
end PL

namespace PL
open PySem PySem.Spec PyProof.Rows L2
/-! ### sorted lists of distinct pairs -/
def insU (p : Int × Int) : List (Int × Int) → List (Int × Int)
  | [] => [p]
  | q :: r => if SrtO.lexB p q = true then p :: q :: r else if p = q then q :: r else q :: insU p r
def sortU : List (Int × Int) → List (Int × Int)
  | [] => []
  | p :: r => insU p (sortU r)
def Lx (p q : Int × Int) : Prop := SrtO.lexB p q = true
theorem Lx.iff {p q : Int × Int} : Lx p q ↔ p.1 < q.1 ∨ (p.1 = q.1 ∧ p.2 < q.2) := SrtO.lexB_iff
theorem insU_mem (p x : Int × Int) : ∀ l : List (Int × Int), x ∈ insU p l ↔ x = p ∨ x ∈ l
  | [] => by simp [insU]
  | q :: r => by
    unfold insU
    split
    · simp
    · split
      · rename_i e
        subst e
        simp
      · rw [List.mem_cons, insU_mem p x r, List.mem_cons]
        constructor
        · rintro (h | h | h)
          · exact .inr (.inl h)
          · exact .inl h
          · exact .inr (.inr h)
        · rintro (h | h | h)
          · exact .inr (.inl h)
          · exact .inl h
          · exact .inr (.inr h)
theorem Lx.trans {p q r : Int × Int} (h : Lx p q) (k : Lx q r) : Lx p r := by
  rw [Lx.iff] at *
  omega
theorem Lx.tri (p q : Int × Int) (h : ¬ Lx p q) (n : p ≠ q) : Lx q p := by
  rw [Lx.iff] at *
  have : ¬ (p.1 = q.1 ∧ p.2 = q.2) := fun z => n (Prod.ext z.1 z.2)
  omega
theorem Lx.irr (p : Int × Int) : ¬ Lx p p := by
  rw [Lx.iff]
  omega
theorem insU_sorted (p : Int × Int) : ∀ l : List (Int × Int), l.Pairwise Lx → (insU p l).Pairwise Lx
  | [], _ => List.pairwise_singleton _ _
  | q :: r, h => by
    obtain ⟨h1, h2⟩ := List.pairwise_cons.mp h
    unfold insU
    split
    · rename_i c
      refine List.pairwise_cons.mpr ⟨fun x hx => ?_, h⟩
      rcases List.mem_cons.mp hx with rfl | hx
      · exact c
      · exact Lx.trans c (h1 x hx)
    · split
      · exact h
      · rename_i c n
        refine List.pairwise_cons.mpr ⟨fun x hx => ?_, insU_sorted p r h2⟩
        rcases (insU_mem p x r).mp hx with rfl | hx
        · exact Lx.tri _ _ c n
        · exact h1 x hx
theorem sortU_sorted : ∀ l : List (Int × Int), (sortU l).Pairwise Lx
  | [] => .nil
  | p :: r => insU_sorted p _ (sortU_sorted r)
theorem sortU_mem (x : Int × Int) : ∀ l : List (Int × Int), x ∈ sortU l ↔ x ∈ l
  | [] => Iff.rfl
  | p :: r => by
    show x ∈ insU p (sortU r) ↔ _
    rw [insU_mem, sortU_mem x r, List.mem_cons]
theorem lx_uniq : ∀ {l m : List (Int × Int)}, l.Pairwise Lx → m.Pairwise Lx → (∀ x, x ∈ l ↔ x ∈ m) → l = m
  | [], [], _, _, _ => rfl
  | [], q :: m, _, _, h => absurd ((h q).mpr List.mem_cons_self) (by simp)
  | p :: l, [], _, _, h => absurd ((h p).mp List.mem_cons_self) (by simp)
  | p :: l, q :: m, hl, hm, h => by
    obtain ⟨l1, l2⟩ := List.pairwise_cons.mp hl
    obtain ⟨m1, m2⟩ := List.pairwise_cons.mp hm
    have e : p = q := by
      rcases List.mem_cons.mp ((h p).mp List.mem_cons_self) with e | hp
      · exact e
      · rcases List.mem_cons.mp ((h q).mpr List.mem_cons_self) with e | hq
        · exact e.symm
        · exact absurd (Lx.trans (l1 q hq) (m1 p hp)) (Lx.irr p)
    subst e
    have : l = m := lx_uniq l2 m2 fun x => by
      constructor
      · intro hx
        rcases List.mem_cons.mp ((h x).mp (List.mem_cons_of_mem _ hx)) with e | hy
        · subst e
          exact absurd (l1 x hx) (Lx.irr x)
        · exact hy
      · intro hx
        rcases List.mem_cons.mp ((h x).mpr (List.mem_cons_of_mem _ hx)) with e | hy
        · subst e
          exact absurd (m1 x hx) (Lx.irr x)
        · exact hy
    rw [this]
/-! ### what a merge of key tuples has -/
theorem putAt_1 (k : List L2.Key) (v : Value) (y : KH) : (putAt k v y).1 = y.1 ∧ (putAt k v y).2.1 = y.2.1 := by
  unfold putAt
  split <;> exact ⟨rfl, rfl⟩
theorem storedH_has {acc : List KH} {k : List L2.Key} {a : Addr} {v : Value} {x : KH} (h : x ∈ storedH acc k a v) : (∃ y ∈ acc, y.1 = x.1 ∧ y.2.1 = x.2.1) ∨ (x.1 = k ∧ x.2.1 = a) := by
  unfold storedH at h
  split at h
  · obtain ⟨y, hy, rfl⟩ := List.mem_map.mp h
    exact .inl ⟨y, hy, (putAt_1 k v y).1.symm, (putAt_1 k v y).2.symm⟩
  · rcases List.mem_append.mp h with h | h
    · exact .inl ⟨x, h, rfl, rfl⟩
    · rw [List.mem_singleton.mp h]
      exact .inr ⟨rfl, rfl⟩
theorem storedH_old {acc : List KH} {k : List L2.Key} {a : Addr} {v : Value} {y : KH} (h : y ∈ acc) : ∃ x ∈ storedH acc k a v, x.1 = y.1 := by
  unfold storedH
  split
  · exact ⟨_, List.mem_map.mpr ⟨y, h, rfl⟩, (putAt_1 k v y).1⟩
  · exact ⟨y, List.mem_append_left _ h, rfl⟩
theorem storedH_key {acc : List KH} {k : List L2.Key} {a : Addr} {v : Value} : ∃ x ∈ storedH acc k a v, x.1 = k := by
  unfold storedH
  split
  · rename_i h
    cases e : atKey acc k with
    | none => rw [e] at h; cases h
    | some p =>
      unfold atKey at e
      cases e2 : acc.find? fun x => decide (x.1 = k) with
      | none => rw [e2] at e; cases e
      | some y =>
        have h1 := List.mem_of_find?_eq_some e2
        have h2 := List.find?_some e2
        exact ⟨_, List.mem_map.mpr ⟨y, h1, rfl⟩, (putAt_1 k v y).1.trans (of_decide_eq_true h2)⟩
  · exact ⟨(k, a, v), List.mem_append_right _ (List.mem_singleton.mpr rfl), rfl⟩
theorem mergedH_has : ∀ (r acc : List KH) {x : KH}, x ∈ mergedH acc r → ∃ y, (y ∈ acc ∨ y ∈ r) ∧ y.1 = x.1 ∧ y.2.1 = x.2.1
  | [], acc, x, h => ⟨x, .inl h, rfl, rfl⟩
  | q :: r, acc, x, h => by
    obtain ⟨y, hy, e1, e2⟩ := mergedH_has r (storedH acc q.1 q.2.1 q.2.2) h
    rcases hy with hy | hy
    · rcases storedH_has hy with ⟨z, hz, e3, e4⟩ | ⟨e3, e4⟩
      · exact ⟨z, .inl hz, e3.trans e1, e4.trans e2⟩
      · exact ⟨q, .inr List.mem_cons_self, e3.symm.trans e1, e4.symm.trans e2⟩
    · exact ⟨y, .inr (List.mem_cons_of_mem _ hy), e1, e2⟩
theorem mergedH_old : ∀ (r acc : List KH) {y : KH}, y ∈ acc → ∃ x ∈ mergedH acc r, x.1 = y.1
  | [], acc, y, h => ⟨y, h, rfl⟩
  | q :: r, acc, y, h => by
    obtain ⟨z, hz, e⟩ := storedH_old (k := q.1) (a := q.2.1) (v := q.2.2) h
    obtain ⟨x, hx, e2⟩ := mergedH_old r _ hz
    exact ⟨x, hx, e2.trans e⟩
theorem mergedH_key : ∀ (r acc : List KH) {y : KH}, y ∈ r → ∃ x ∈ mergedH acc r, x.1 = y.1
  | q :: r, acc, y, h => by
    rcases List.mem_cons.mp h with e | h
    · subst e
      obtain ⟨z, hz, e⟩ := storedH_key (acc := acc) (k := y.1) (a := y.2.1) (v := y.2.2)
      obtain ⟨x, hx, e2⟩ := mergedH_old r _ hz
      exact ⟨x, hx, e2.trans e⟩
    · exact mergedH_key r _ h
/-- the two integers of a pair in the heap -/
def kOf (h : Heap) (u : Value) : Int × Int := match u with
  | .ref a => match h.get? a with
    | some o => match o.data with
      | .seq its _ => match its.toList with
        | [.int x _, .int y _] => (x, y)
        | _ => (0, 0)
      | _ => (0, 0)
    | none => (0, 0)
  | _ => (0, 0)
theorem kOf_pair {h : Heap} {u : Value} {x y : Int} (p : Srt.IsPair h u x y) : kOf h u = (x, y) := by
  obtain ⟨a, o, t, t2, n, rfl, ho, hc, hd⟩ := p
  show (match h.get? a with
    | some o => match o.data with
      | .seq its _ => match its.toList with
        | [.int x _, .int y _] => (x, y)
        | _ => (0, 0)
      | _ => (0, 0)
    | none => (0, 0)) = _
  rw [ho]
  show (match o.data with
      | .seq its _ => match its.toList with
        | [.int x _, .int y _] => (x, y)
        | _ => (0, 0)
      | _ => (0, 0)) = _
  rw [hd]
section
variable {prog : Program} {w : World} {A : Around} {E : Value → Shared → Prop}
/-- sorted(d), the keys being pairs of integers -/
theorem sorted_dH {s : Shared} {d : Addr} {xs : List KH} {k : Value → Int × Int} {Q : Value → Shared → Prop} (lo : (d == sysModules) = false) (hh : A.handled = none) (hm : s.heap.DictOfH (tupleKind (mixKind prog w)) d xs) (hz : xs.length ≤ sizeLine)
    (hp : ∀ v ∈ xs.map fun x => Value.ref x.2.1, Srt.IsPair s.heap v (k v).1 (k v).2)
    (h : ∀ (h1 h' : Heap) (tk : Nat) (out : List Value), SrtO.Srtd (fun v u => SrtO.lexB (k v) (k u)) out → SrtO.Stb (fun v u => SrtO.lexB (k v) (k u)) out (xs.map fun x => Value.ref x.2.1) → (∀ b o, s.heap.get? b = some o → h1.get? b = some o) → (∀ b o, h1.get? b = some o → h'.get? b = some o) → (∃ n, h'.get? h1.objs.size = some (seqObj "list" out.toArray n)) → Q (.ref h1.objs.size) { s with heap := h', toks := tk }) :
    wpAny (model prog w) A (call (.builtin "sorted") [.ref d]) Q E s := by
  obtain ⟨o, es, ep, ho, hx, hd, he, his, hn⟩ := hm
  have hsz : es.size = xs.length := size_of_entries he
  refine Calls.call_function_entry PyProof.Rows.kind_sorted PyProof.Rows.plain_sorted PyProof.Rows.entry_sorted (PyProof.Rows.args_sorted1 _) ?_
  unfold Builtin.«sorted»
  refine wpAny_bind (m := checkCount "sorted" 1 1 _) (wpAny_pure ?_)
  refine wpAny_bind (PySem.W.kdu_collect (A := A.in1) (kdl_raw (prog := prog) (w := w) lo hx hd) hh ho (by rw [hsz]; exact hz) fun h' tk acc hk hacc => ?_)
  have ea : acc.toList = xs.map fun x => Value.ref x.2.1 := by
    refine List.ext_getElem? fun j => ?_
    rw [Array.getElem?_toList, List.getElem?_map]
    cases ej : acc[j]? with
    | none =>
      have : acc.size ≤ j := Array.getElem?_eq_none_iff.mp ej
      rw [List.getElem?_eq_none (by rw [hacc.1, hsz] at this; exact this)]
      rfl
    | some v =>
      obtain ⟨en, e1, e2⟩ := hacc.2 j v ej
      rw [entry_at he j] at e1
      cases ex : xs[j]? with
      | none => rw [ex] at e1; cases e1
      | some x =>
        rw [ex] at e1
        have e3 : entryOfKey (tupleKind (mixKind prog w)) x = en := Option.some.inj e1
        rw [e2, ← e3]
        rfl
  have hal : acc.toList.length ≤ sizeLine := by rw [ea, List.length_map]; exact hz
  refine wpAny_bind (wpAny_newList ?_ hal)
  have hoL : (h'.push (seqObj "list" acc.toList.toArray 0)).get? h'.objs.size = some (seqObj "list" acc.toList.toArray 0) := Heap.get?_push_size _ rfl
  show wpAny _ _ _ _ _ { s with heap := h'.push (seqObj "list" acc.toList.toArray 0), toks := tk }
  have keep : ∀ b o, s.heap.get? b = some o → (h'.push (seqObj "list" acc.toList.toArray 0)).get? b = some o := fun b o e => Heap.get?_push_of_some _ (hk b o e)
  refine wpAny_bind (wpAny_holding (wpAny_call_entry PyProof.Rows.slot_list_sort ⟨_, hoL, rfl⟩ PyProof.Rows.entry_list_sort
    (SrtO.list_sort_ord (s := { s with heap := h'.push (seqObj "list" acc.toList.toArray 0), toks := tk }) (SrtO.swo_lex k) hoL hal (fun h2 => ?_) fun out hs hb => ⟨_, rfl, ?_⟩) (PyProof.Rows.args_list_sort _)))
  · refine SrtO.pairs_sortableO (s := { s with heap := h'.push (seqObj "list" acc.toList.toArray 0), toks := tk }) (by omega) (fun v hm => (hp v (by rw [← ea]; exact hm)).keeps fun b o e _ => keep b o e) fun o e => ?_
    have e' : some o = some (seqObj "list" acc.toList.toArray 0) := e.symm.trans hoL
    cases e'
    intro c
    exact absurd (Value.type.inj c) (by decide)
  · obtain ⟨e2, he2⟩ := PyProof.Rows.sortedHeap_at (vs := acc.toList) (out := out.toArray) hoL
    rw [ea] at hb
    refine wpAny_pure ⟨_, rfl, h h' _ _ out hs hb hk (fun b o e => ?_) ⟨e2, he2⟩⟩
    have hb : b < h'.objs.size := Heap.lt_size e
    rw [PyProof.Rows.sortedHeap_old (Nat.ne_of_lt hb) (by rw [size_push']; exact Nat.lt_succ_of_lt hb)]
    exact Heap.get?_push_of_some _ e
end
end PL
namespace PL
open PySem PySem.Spec PyProof.Rows L2
/-! ### sorted(dict(xs)) as a rule -/
section
variable {X : Cx}
/-- a pair of integers, a thing: what dict is made of -/
structure PrOk (K : PySem.W.Frag) (H : Hp) (x : V) (b : Addr) (i j : Int) : Prop where
  key : SqT K H b [.int i, .int j]
  out : ∃ t v, x = .ref t ∧ SqT K H t [.ref b, v]
def PairsAt (K : PySem.W.Frag) (H : Hp) : List V → List (Addr × (Int × Int)) → Prop := Paired fun x q => PrOk K H x q.1 q.2.1 q.2.2
def KeysAt (K : PySem.W.Frag) (H : Hp) : List V → List (Int × Int) → Prop := Paired fun x q => ∃ b, x = .ref b ∧ SqT K H b [.int q.1, .int q.2]
def tSD (K : PySem.W.Frag) (ta : TE) : TE := fun σ H Q => ta σ H fun x H1 => ∃ (l : Addr) (xs : List V) (qs : List (Addr × (Int × Int))), x = .ref l ∧ SqL K H1 l xs ∧ PairsAt K H1 xs qs ∧
  ∀ p ys, H1 p = none → KeysAt K H1 ys (sortU (qs.map (·.2))) → Q (.ref p) (upd H1 p (.lst ys))
theorem prs_of {pins : List (Addr × Obj)} {σ : L2.St} {H : Hp} {s : Shared} (I : Inv X pins σ H s) : ∀ {xs : List V} {qs : List (Addr × (Int × Int))} {us : List Value}, PairsAt X.K H xs qs → Vals xs us →
    ∃ prs : List KH, prs.length = us.length ∧ prs.map (fun q => (q.1, q.2.1)) = qs.map (fun q => ([Sum.inl q.2.1, Sum.inl q.2.2], q.1)) ∧
      ∀ (j : Nat) (q : KH), prs[j]? = some q → ∃ b : Addr, us[j]? = some (.ref b) ∧ IsTup s.heap b #[.ref q.2.1, q.2.2] ∧ IsTupleKey (mixKind X.prog X.w) s.heap q.1 q.2.1
  | _, _, _, .nil, .nil => ⟨[], rfl, rfl, fun j q e => by simp at e⟩
  | x :: xs, q :: qs, u :: us, .cons h t, .cons ru rt => by
    obtain ⟨prs, h1, h2, h3⟩ := prs_of I t rt
    obtain ⟨hk, tt, v, ex, ht⟩ := h
    subst ex
    obtain rfl : u = Value.ref tt := ru
    obtain ⟨its, rv, hT, _⟩ := I.tuple ht
    obtain ⟨u1, u2, ei, r1, r2⟩ := vals2 rv
    subst ei
    obtain rfl : u1 = Value.ref q.1 := r1
    obtain ⟨its2, rv2, hT2, _⟩ := I.tuple hk
    refine ⟨([Sum.inl q.2.1, Sum.inl q.2.2], q.1, u2) :: prs, by rw [List.length_cons, List.length_cons, h1], by rw [List.map_cons, List.map_cons, h2], fun j z e => ?_⟩
    cases j with
    | zero =>
      have e' := Option.some.inj e
      subst e'
      obtain ⟨o, ho, hc, n, hd⟩ := hT2
      exact ⟨tt, rfl, hT, o, its2.toArray, n, ho, hc, hd, by
        have := items_are (P := X.prog) (w := X.w) (ks := [Sum.inl q.2.1, Sum.inl q.2.2]) (us := its2) rv2
        simpa using this⟩
    | succ j =>
      obtain ⟨b, e1, e2⟩ := h3 j z (by simpa using e)
      exact ⟨b, by simpa using e1, e2⟩
theorem pair_raw {h : Heap} {b : Addr} {i j : Int} {P : Program} {w : World} (x : IsTupleKey (mixKind P w) h [Sum.inl i, Sum.inl j] b) : Srt.IsPair h (.ref b) i j := by
  obtain ⟨o, items, n, ho, hc, hd, hi⟩ := x
  obtain ⟨l⟩ := items
  have hi' : ItemsAre (mixKind P w) [Sum.inl i, Sum.inl j] l := hi
  cases hi' with
  | @cons _ u1 _ l1 a1 r1 =>
    cases r1 with
    | @cons _ u2 _ l2 a2 r2 =>
      cases r2
      rcases keyIs_shape (show keyIs (Sum.inl i) u1 = true from a1) with ⟨i1, t1, ek, ev⟩ | ⟨z, t, ek, ev⟩
      · cases ek
        subst ev
        rcases keyIs_shape (show keyIs (Sum.inl j) u2 = true from a2) with ⟨i2, t2, ek, ev⟩ | ⟨z, t, ek, ev⟩
        · cases ek
          subst ev
          exact ⟨b, o, t1, t2, n, rfl, ho, hc, hd⟩
        · cases ek
      · cases ek
theorem pe_sortedDict {a : Expr} {ta : TE} {p p2 q pos : Pos} (hc : X.calm = true) (hu : X.A.units + 64 < cLine) (hg : Gl X "sorted") (hm : X.mg "sorted" = none) (hg2 : Gl X "dict") (hm2 : X.mg "dict" = none) (hbs : bootBuiltins "sorted" = some (.builtin "sorted")) (hbd : bootBuiltins "dict" = some (.type "dict")) (ha : PE X a ta)
    (na : starEach [a] X.env = (false, eval a X.env) :: starEach [] X.env := by rfl) : PE X (.Call (.Name "sorted" p) [.Call (.Name "dict" p2) [a] [] q] [] pos) (tSD X.K ta) := by
  refine ⟨fun pins s σ H Q I h => ?_⟩
  refine Call_ (ld_blt I hg hm hbs ?_)
  refine PyProof.Rows.callWith_builtin1 (PyProof.Rows.args_cons ?_ rfl) rfl rfl
  refine Call_ (ld_blt I hg2 hm2 hbd ?_)
  refine PyProof.Rows.callWith_type1 (PyProof.Rows.args_cons (thn (ha.run pins s σ H _ I h) fun v s1 ⟨x, H1, I1, r1, q1⟩ => PyProof.Rows.args_nil ?_) na) na rfl
  obtain ⟨l, xs, qs, rfl, hq, hps, q1⟩ := q1
  cases r1
  obtain ⟨its, rv, pl, hz⟩ := I1.list hq
  obtain ⟨prs, e1, e2, e3⟩ := prs_of I1 hps rv
  obtain ⟨o, n, ho, hcl, hd, hdat⟩ := pl
  have hlen : its.length ≤ sizeLine := by rw [← rv.length]; exact hz
  refine call_dict_tups (n := n) (prs := prs) (by omega) (I1.ok.hd hc) ho hcl hd hdat (by rw [List.size_toArray, e1]) (by rw [e1]; exact hlen) (fun j z e => ?_) fun h' tk hD hk => ?_
  · obtain ⟨b, a1, a2, a3⟩ := e3 j z e
    exact ⟨b, by simpa using a1, a2, a3⟩
  refine PyProof.Rows.args_nil ?_
  have I2 : Inv X pins σ H1 { s1 with heap := h', toks := tk } := I1.kept hk
  have lo : (s1.heap.objs.size == sysModules) = false := beq_eq_false_iff_ne.mpr (Nat.ne_of_gt I1.big)
  have hml : (mergedH [] prs).length ≤ sizeLine := by
    have := mergedH_le prs []
    rw [List.length_nil, Nat.zero_add, e1] at this
    exact Nat.le_trans this hlen
  obtain ⟨od, es, ep, hod, hxd, hdd, hes, his, hnd⟩ := id hD
  -- each key of the dict is one of the pairs
  have has : ∀ x ∈ mergedH [] prs, ∃ q ∈ qs, x.1 = [Sum.inl q.2.1, Sum.inl q.2.2] ∧ x.2.1 = q.1 := fun x hx => by
    obtain ⟨y, hy, f1, f2⟩ := mergedH_has prs [] hx
    rcases hy with hy | hy
    · cases hy
    · have : (y.1, y.2.1) ∈ prs.map fun q => (q.1, q.2.1) := List.mem_map.mpr ⟨y, hy, rfl⟩
      rw [e2] at this
      obtain ⟨q, hq, eq⟩ := List.mem_map.mp this
      injection eq with g1 g2
      exact ⟨q, hq, f1.symm.trans g1.symm, f2.symm.trans g2.symm⟩
  have pr : ∀ x ∈ mergedH [] prs, ∀ q : Addr × (Int × Int), x.1 = [Sum.inl q.2.1, Sum.inl q.2.2] → Srt.IsPair h' (.ref x.2.1) q.2.1 q.2.2 := fun x hx q eq => pair_raw (P := X.prog) (w := X.w) (by rw [← eq]; exact his x hx)
  have hpair : ∀ v ∈ (mergedH [] prs).map fun x => Value.ref x.2.1, Srt.IsPair h' v (kOf h' v).1 (kOf h' v).2 := fun v hv => by
    obtain ⟨x, hx, rfl⟩ := List.mem_map.mp hv
    obtain ⟨q, _, f1, _⟩ := has x hx
    have z := pr x hx q f1
    rw [kOf_pair z]
    exact z
  refine sorted_dH (k := kOf h') lo (I2.ok.hd hc) hD hml hpair fun h2 h3 tk2 out hs hb k1 k2 hnew => ?_
  have I3 : Inv X pins σ H1 { s1 with heap := h2, toks := tk2 } := I2.kept k1
  -- the sorted list, element by element
  have hout : ∀ v ∈ out, ∃ x ∈ mergedH [] prs, v = Value.ref x.2.1 := fun v hv => by
    obtain ⟨x, hx, e⟩ := List.mem_map.mp (hb.perm.mem_iff.mp hv)
    exact ⟨x, hx, e.symm⟩
  have hkeys : KeysAt X.K H1 (out.map bkV) (out.map (kOf h')) := by
    clear hs hb hnew
    induction out with
    | nil => exact .nil
    | cons v out ih =>
      obtain ⟨x, hx, rfl⟩ := hout _ List.mem_cons_self
      obtain ⟨q, hqm, f1, f2⟩ := has x hx
      refine .cons ⟨x.2.1, rfl, ?_⟩ (ih fun u hu => hout u (List.mem_cons_of_mem _ hu))
      rw [kOf_pair (pr x hx q f1), f2]
      obtain ⟨j, hj⟩ := List.getElem?_of_mem hqm
      obtain ⟨xv, _, hpo⟩ := L2.DX.pget hps hj
      exact hpo.key
  have hsorted : out.map (kOf h') = sortU (qs.map (·.2)) := by
    refine lx_uniq ?_ (sortU_sorted _) fun z => ?_
    · -- strictly ascending
      have nd : (out.map (kOf h')).Nodup := by
        have p1 : (out.map (kOf h')).Perm (((mergedH [] prs).map fun x => Value.ref x.2.1).map (kOf h')) := hb.perm.map _
        refine p1.nodup_iff.mpr ?_
        rw [List.map_map]
        refine List.pairwise_map.mpr ?_
        have nd1 : (mergedH [] prs).Pairwise fun x y => x.1 ≠ y.1 := List.pairwise_map.mp hnd
        refine List.Pairwise.imp_of_mem (fun {x y} hx hy hne e => hne ?_) nd1
        obtain ⟨q1, _, f1, _⟩ := has x hx
        obtain ⟨q2, _, f2, _⟩ := has y hy
        have e' : kOf h' (.ref x.2.1) = kOf h' (.ref y.2.1) := e
        rw [kOf_pair (pr x hx q1 f1), kOf_pair (pr y hy q2 f2)] at e'
        injection e' with g1 g2
        rw [f1, f2, g1, g2]
      have sr : (out.map (kOf h')).Pairwise fun x y => SrtO.lexB y x = false := by
        refine List.pairwise_map.mpr ?_
        exact hs
      have both := nd.and sr
      refine List.Pairwise.imp (fun {x y} hxy => ?_) both
      refine Lx.tri y x (fun c => ?_) (Ne.symm hxy.1)
      have := hxy.2
      rw [show SrtO.lexB y x = true from c] at this
      cases this
    · rw [sortU_mem]
      constructor
      · intro hz
        obtain ⟨v, hv, rfl⟩ := List.mem_map.mp hz
        obtain ⟨x, hx, rfl⟩ := hout v hv
        obtain ⟨q, hqm, f1, _⟩ := has x hx
        rw [kOf_pair (pr x hx q f1)]
        exact List.mem_map.mpr ⟨q, hqm, rfl⟩
      · intro hz
        obtain ⟨q, hqm, rfl⟩ := List.mem_map.mp hz
        have : ([Sum.inl q.2.1, Sum.inl q.2.2], q.1) ∈ prs.map fun q => (q.1, q.2.1) := by
          rw [e2]
          exact List.mem_map.mpr ⟨q, hqm, rfl⟩
        obtain ⟨y, hy, ey⟩ := List.mem_map.mp this
        injection ey with g1 g2
        obtain ⟨x, hx, ex⟩ := mergedH_key prs [] hy
        refine List.mem_map.mpr ⟨.ref x.2.1, hb.perm.mem_iff.mpr (List.mem_map.mpr ⟨x, hx, rfl⟩), ?_⟩
        exact kOf_pair (pr x hx q (ex.trans g1))
  obtain ⟨n2, hn2⟩ := hnew
  have h3' : ∀ u ∈ out, ∃ a, u = Value.ref a := fun u hu => by
    obtain ⟨x, _, e⟩ := hout u hu
    exact ⟨_, e⟩
  have hlo : (out.map bkV).length ≤ sizeLine := by
    rw [List.length_map, hb.perm.length_eq, List.length_map]
    exact hml
  refine ⟨.ref h2.objs.size, upd H1 h2.objs.size (.lst (out.map bkV)), I3.laid (t' := tk2) k2 (Nat.le_refl _) ⟨hlo, out, n2, bkV_vals h3', hn2⟩, rfl, q1 _ _ (I3.hok.fresh (Nat.le_refl _)) ?_⟩
  rw [← hsorted]
  exact hkeys
end
end PL
namespace PL
open PySem PySem.Spec PyProof.Rows L2
/-! ### the same over the store -/
def pD (p : Int × Int) : D := .tup [.int p.1, .int p.2]
def dPr : D → Option (Int × Int)
  | .tup [.int i, .int j] => some (i, j)
  | _ => none
def dPrK : D → Option (Int × Int)
  | .tup [k, _] => dPr k
  | _ => none
def dPrs : List D → Option (List (Int × Int)) := mapO dPrK
def sdD (x : D) : M D := fun s => match seqD s x with
  | some ds => (match dPrs ds with
    | some ps => .ok (.vls ((sortU ps).map pD)) s
    | none => .stuck)
  | none => .stuck
theorem dPr_rep {K : PySem.W.Frag} {μ : Mu} {H : Hp} {d : D} {v : V} {p : Int × Int} (e : dPr d = some p) (r : Rep K μ H v d) : ∃ b, v = .ref b ∧ SqT K H b [.int p.1, .int p.2] := by
  unfold dPr at e
  split at e
  · cases e
    cases r with
    | tup hs hl =>
      cases hl with
      | cons a1 t1 =>
        cases t1 with
        | cons a2 t2 =>
          cases t2
          cases a1
          cases a2
          exact ⟨_, rfl, hs⟩
  · cases e
theorem dPrs_rep {K : PySem.W.Frag} {μ : Mu} {H : Hp} : ∀ {ds : List D} {xs : List V} {ps : List (Int × Int)}, dPrs ds = some ps → RepL K μ H xs ds → ∃ qs, PairsAt K H xs qs ∧ qs.map (·.2) = ps
  | [], _, ps, e, .nil => by
    cases e
    exact ⟨[], .nil, rfl⟩
  | d :: r, _, ps, e, .cons h t => by
    unfold dPrs mapO at e
    cases q : dPrK d with
    | none => rw [q] at e; cases e
    | some p =>
      rw [q] at e
      cases q2 : mapO dPrK r with
      | none => rw [q2] at e; cases e
      | some ms =>
        rw [q2] at e
        cases e
        obtain ⟨qs, h1, h2⟩ := dPrs_rep (ds := r) q2 t
        unfold dPrK at q
        split at q
        · cases h with
          | tup hs hl =>
            cases hl with
            | cons a1 t1 =>
              cases t1 with
              | cons a2 t2 =>
                cases t2
                obtain ⟨b, rfl, hb⟩ := dPr_rep q a1
                exact ⟨(b, p) :: qs, .cons ⟨hb, _, _, rfl, hs⟩ h1, by rw [List.map_cons, h2]⟩
        · cases q
theorem keys_rep {K : PySem.W.Frag} {μ : Mu} {H : Hp} : ∀ {ys : List V} {ps : List (Int × Int)}, KeysAt K H ys ps → RepL K μ H ys (ps.map pD)
  | _, _, .nil => .nil
  | _, _, .cons h t => by
    obtain ⟨b, rfl, hb⟩ := h
    exact .cons (.tup hb (.cons (.int _) (.cons (.int _) .nil))) (keys_rep t)
section
variable {X : Cx} {E : XK} {a : Expr} {ma : Env → M D} {pos p p2 q : Pos}
theorem se_sd (hc : X.calm = true) (hu : X.A.units + 64 < cLine) (ha : SE X E a ma) (hg : Gl X "sorted") (hm : X.mg "sorted" = none) (hg2 : Gl X "dict") (hm2 : X.mg "dict" = none) (hbs : bootBuiltins "sorted" = some (.builtin "sorted") := by decide +kernel) (hbd : bootBuiltins "dict" = some (.type "dict") := by decide +kernel)
    (na : starEach [a] X.env = (false, eval a X.env) :: starEach [] X.env := by rfl) : SE X E (.Call (.Name "sorted" p) [.Call (.Name "dict" p2) [a] [] q] [] pos) (unM sdD ma) := by
  refine PE.imp (pe_sortedDict hc hu hg hm hg2 hm2 hbs hbd ha na) ?_
  rintro σ H Q ⟨μ, env, s, hv, hs, post⟩
  refine ⟨μ, env, s, hv, hs, (Post.bind post).mono fun x s1 μ1 H1 g1 hs1 p1 v hx => ?_⟩
  unfold sdD at p1
  cases e1 : seqD s1 x with
  | none => simp only [e1] at p1; exact (show False from p1).elim
  | some ds =>
    cases e2 : dPrs ds with
    | none => simp only [e1, e2] at p1; exact (show False from p1).elim
    | some ps =>
      simp only [e1, e2] at p1
      obtain ⟨l, xs, rfl, hq, hl⟩ := seqD_rep hs1 hx e1
      obtain ⟨qs, h1, h2⟩ := dPrs_rep e2 hl
      refine ⟨l, xs, qs, rfl, hq, h1, fun p ys hp hk => ?_⟩
      rw [h2] at hk
      exact post_vls hs1 (keys_rep hk) p1 p hp
end
end PL

/-! PL9: in, slices, dict operations, statements that are never reached. -/
namespace PL
open PySem PySem.Spec PyProof.Rows L2
section
variable {X : Cx} {E : XK}
/-! ### what is never run -/
theorem se_stuck {e : Expr} (h : ∃ t, PE X e t) : SE X E e (fun _ => stuck) := by
  obtain ⟨t, h⟩ := h
  refine PE.imp h ?_
  rintro σ H Q ⟨μ, env, s, hv, hs, post⟩
  exact (show False from post).elim
theorem ss_stuck {st : Stmt} : SS X E st (fun _ => stuck) := ⟨fun pins s σ H Dd I q => by
  obtain ⟨μ, env, s, hv, hs, post⟩ := q
  exact (show False from post).elim⟩
theorem se_never {e : Expr} : SE X E e (fun _ => stuck) := ⟨fun pins s σ H Q I q => by
  obtain ⟨μ, env, s, hv, hs, post⟩ := q
  exact (show False from post).elim⟩
/-! ### x in y -/
def inP (s : S) (x : D) (l : Option PyData) : R D := match toPy s 12 x, l with
  | some d, some (.list es) => if (SeqAt.shaped d && SeqAt.shaped (.list es)) = true then .ok (.bl (es.any fun z => PyData.eqv z d)) s else .stuck
  | _, _ => .stuck
def flatD : D → Option V
  | .non => some .non
  | .bl b => some (.bl b)
  | .int i => some (.int i)
  | .str x => some (.str x)
  | _ => none
def inT (s : S) (x : D) (ds : List D) : R D := match flatD x, mapO flatD ds with
  | some v, some vs => .ok (.bl (inV v vs)) s
  | _, _ => .stuck
def inD (x y : D) : M D := fun s => match y with
  | .ptr n => (match s[n]? with
    | some (.dK kvs) => (match dKey x with
      | some k => .ok (.bl (valD kvs k).isSome) s
      | none => .stuck)
    | some (.lst ds) => inP s x (toPy s 13 (.ptr n))
    | _ => .stuck)
  | .flst ds => inP s x (toPy s 13 (.flst ds))
  | .vls ds => inP s x (toPy s 13 (.vls ds))
  | .tup ds => inT s x ds
  | _ => .stuck
def ninD : D → D → M D := notD inD
theorem flatD_rep {K : PySem.W.Frag} {μ : Mu} {H : Hp} {d : D} {v w : V} (e : flatD d = some w) (r : Rep K μ H v d) : v = w ∧ flatV w = true := by
  cases r <;> first | (cases e; exact ⟨rfl, rfl⟩) | cases e
theorem flatDs_rep {K : PySem.W.Frag} {μ : Mu} {H : Hp} : ∀ {ds : List D} {xs ws : List V}, mapO flatD ds = some ws → RepL K μ H xs ds → xs = ws ∧ ws.all flatV = true
  | [], _, ws, e, .nil => by cases e; exact ⟨rfl, rfl⟩
  | d :: r, _, ws, e, .cons h t => by
    unfold mapO at e
    cases q : flatD d with
    | none => rw [q] at e; cases e
    | some w =>
      rw [q] at e
      cases q2 : mapO flatD r with
      | none => rw [q2] at e; cases e
      | some ms =>
        rw [q2] at e
        cases e
        obtain ⟨h1, h2⟩ := flatD_rep q h
        obtain ⟨h3, h4⟩ := flatDs_rep q2 t
        exact ⟨by rw [h1, h3], by rw [List.all_cons, h2, h4]; rfl⟩
/-- what `in` gives, as a fact of both sides -/
theorem inD_core {K : PySem.W.Frag} {μ : Mu} {H : Hp} {st : S} {dx dy : D} {x y : V} {r : D} {st' : S} (hs : SimS K μ H st) (hx : Rep K μ H x dx) (hy : Rep K μ H y dy) (e : inD dx dy st = .ok r st') :
    st' = st ∧ ∃ b, r = .bl b ∧ ((∃ a o, y = .ref a ∧ DGet H a x o ∧ b = o.isSome) ∨ (∃ d es, Dp K H x d ∧ Dp K H y (.list es) ∧ SeqAt.shaped d = true ∧ SeqAt.shaped (.list es) = true ∧ b = es.any fun z => PyData.eqv z d) ∨
      ∃ p xs, y = .ref p ∧ SqT K H p xs ∧ flatV x = true ∧ xs.all flatV = true ∧ b = inV x xs) := by
  have lst : ∀ {l : D} (hl : Rep K μ H y l), inP st dx (toPy st 13 l) = .ok r st' → st' = st ∧ ∃ b, r = .bl b ∧ ((∃ a o, y = .ref a ∧ DGet H a x o ∧ b = o.isSome) ∨ (∃ d es, Dp K H x d ∧ Dp K H y (.list es) ∧ SeqAt.shaped d = true ∧ SeqAt.shaped (.list es) = true ∧ b = es.any fun z => PyData.eqv z d) ∨
      ∃ p xs, y = .ref p ∧ SqT K H p xs ∧ flatV x = true ∧ xs.all flatV = true ∧ b = inV x xs) := fun {l} hl e => by
    unfold inP at e
    split at e
    · rename_i d es e1 e2
      split at e
      · rename_i hsh
        rw [Bool.and_eq_true] at hsh
        cases e
        exact ⟨rfl, _, rfl, .inr (.inl ⟨d, es, toPy_dp hs 12 _ _ d e1 hx, toPy_dp hs 13 _ _ _ e2 hl, hsh.1, hsh.2, rfl⟩)⟩
      · cases e
    · cases e
  unfold inD at e
  cases hy with
  | @ptr a n hn =>
    simp only [] at e
    cases ec : st[n]? with
    | none => simp only [ec] at e; cases e
    | some c =>
      simp only [ec] at e
      cases c with
      | lst ds => exact lst (.ptr hn) e
      | dK kvs =>
        simp only [] at e
        cases ek : dKey dx with
        | none => simp only [ek] at e; cases e
        | some k =>
          simp only [ek] at e
          cases e
          obtain ⟨xs, h1, h2⟩ := cell_dK hs hn ec
          have eu := dKey_rep ek hx
          subst eu
          refine ⟨rfl, _, rfl, .inl ⟨a, valV xs k, rfl, DGet.k h1, ?_⟩⟩
          cases ev : valD kvs k with
          | none =>
            have : valV xs k = none := lmap_none h2 (by
              unfold valD at ev
              exact ev)
            rw [this]
            rfl
          | some d =>
            obtain ⟨w, hw, _⟩ := lmap_fst h2 ev
            rw [hw]
            rfl
      | dT kvs => cases e
      | ins C fs => cases e
      | fK kvs => cases e
  | @flst a xs ds h l => exact lst (.flst h l) e
  | @vls a xs ds h l => exact lst (.vls h l) e
  | @tup a xs ds h l =>
    simp only [] at e
    unfold inT at e
    split at e
    · rename_i v vs e1 e2
      cases e
      obtain ⟨h1, h2⟩ := flatD_rep e1 hx
      obtain ⟨h3, h4⟩ := flatDs_rep e2 l
      subst h1 h3
      exact ⟨rfl, _, rfl, .inr (.inr ⟨a, _, rfl, h, h2, h4, rfl⟩)⟩
    · cases e
  | _ => cases e
theorem inD_noexc {dx dy : D} {st st' : S} {c : Str} (e : inD dx dy st = .exc c st') : False := by
  unfold inD inP inT at e
  repeat (first | cases e | split at e)
theorem op_inDD (hu : X.A.units + 65 < cLine) : OpR X (compareOp .In) (R2of X.K E inD) := by
  intro pins s σ H x y v u Q I rx ry h
  obtain ⟨μ, st, dx, dy, hs, hx, hy, post⟩ := h
  cases e : inD dx dy st with
  | stuck => rw [e] at post; exact (show False from post).elim
  | exc c s' => exact (inD_noexc e).elim
  | ok r s' =>
    rw [e] at post
    obtain ⟨rfl, b, rfl, ⟨a, o, rfl, g, rfl⟩ | ⟨d, es, h1, h2, h3, h4, rfl⟩ | ⟨p, xs, rfl, h1, h2, h3, rfl⟩⟩ := inD_core hs hx hy e
    · obtain rfl : u = Value.ref a := ry
      exact d_in (by omega) I g rx fun s1 I1 => ⟨.bl _, H, I1, rfl, post_bl hs post⟩
    · exact op_inD hu pins s σ H _ _ v u Q I rx ry ⟨d, es, h1, h2, h3, h4, post_bl hs post⟩
    · exact op_in_seq pins s σ H _ _ v u Q I rx ry ⟨p, xs, rfl, .inr h1, h2, h3, post_bl hs post⟩
theorem op_ninDD (hu : X.A.units + 65 < cLine) : OpR X (compareOp .NotIn) (R2of X.K E ninD) := by
  intro pins s σ H x y v u Q I rx ry h
  obtain ⟨μ, st, dx, dy, hs, hx, hy, post⟩ := h
  unfold ninD notD at post
  rw [bind_run] at post
  cases e : inD dx dy st with
  | stuck => rw [e] at post; exact (show False from post).elim
  | exc c s' => exact (inD_noexc e).elim
  | ok r s' =>
    rw [e] at post
    obtain ⟨rfl, b, rfl, ⟨a, o, rfl, g, rfl⟩ | ⟨d, es, h1, h2, h3, h4, rfl⟩ | ⟨p, xs, rfl, h1, h2, h3, rfl⟩⟩ := inD_core hs hx hy e
    · obtain rfl : u = Value.ref a := ry
      exact d_notIn (by omega) I g rx fun s1 I1 => ⟨.bl _, H, I1, rfl, post_bl hs post⟩
    · exact op_notInD hu pins s σ H _ _ v u Q I rx ry ⟨d, es, h1, h2, h3, h4, post_bl hs post⟩
    · exact op_notIn_seq pins s σ H _ _ v u Q I rx ry ⟨p, xs, rfl, .inr h1, h2, h3, post_bl hs post⟩
/-! ### slices -/
def TOof (K : PySem.W.Frag) (E : XK) (m : Env → M (Option Int)) : TO := fun σ H Q => ∃ μ env s, SimV K μ H σ env ∧ SimS K μ H s ∧ Post K E μ H (m env s) (fun o _ _ H' => Q o H')
def SO (X : Cx) (E : XK) (e : Option Expr) (m : Env → M (Option Int)) : Prop := PO X e (TOof X.K E m)
theorem PO.imp {e : Option Expr} {t t' : TO} (h : PO X e t) (f : ∀ σ H Q, t' σ H Q → t σ H Q) : PO X e t' := ⟨fun pins s σ H Q I q => h.run pins s σ H Q I (f σ H Q q)⟩
def noP (_ : Env) : M (Option Int) := pure none
def inPt (m : Env → M D) (env : Env) : M (Option Int) := m env >>= fun d => match d with
  | .int i => pure (some i)
  | _ => stuck
theorem so_none : SO X E none noP := PO.imp po_none (by
  rintro σ H Q ⟨μ, env, s, hv, hs, post⟩
  exact Post.now (a := (none : Option Int)) post hs)
theorem so_some {e : Expr} {m : Env → M D} (h : SE X E e m) : SO X E (some e) (inPt m) := PO.imp (po_some h) (by
  rintro σ H Q ⟨μ, env, s, hv, hs, post⟩
  refine ⟨μ, env, s, hv, hs, (Post.bind post).mono fun d s1 μ1 H1 g1 hs1 p1 v hx => ?_⟩
  cases hx with
  | int i => exact ⟨i, rfl, Post.now (a := some i) p1 hs1⟩
  | _ => exact (show False from p1).elim)
def cutD (ds : List D) (lo hi : Option Int) : List D := (ds.drop (HT.sIx ds.length 0 lo)).take (HT.sIx ds.length ds.length hi - HT.sIx ds.length 0 lo)
def slD (x : D) (lo hi : Option Int) : M D := match x with
  | .tup ds => pure (.tup (cutD ds lo hi))
  | .flst ds => pure (.vls (cutD ds lo hi))
  | .vls ds => pure (.vls (cutD ds lo hi))
  | .str z => if z.length ≤ 100000 then pure (.str (cutS z lo hi)) else stuck
  | .ptr n => fun s => match s[n]? with
    | some (.lst ds) => .ok (.vls (cutD ds lo hi)) s
    | _ => .stuck
  | _ => stuck
def slM (ma : Env → M D) (ml mh : Env → M (Option Int)) (env : Env) : M D := ma env >>= fun x => ml env >>= fun l => mh env >>= fun h => slD x l h
theorem RepL.take' {K : PySem.W.Frag} {μ : Mu} {H : Hp} : ∀ {xs : List V} {ds : List D} (n : Nat), RepL K μ H xs ds → RepL K μ H (xs.take n) (ds.take n)
  | _, _, 0, _ => by rw [List.take_zero, List.take_zero]; exact .nil
  | _, _, n + 1, .nil => .nil
  | _, _, n + 1, .cons h t => .cons h (RepL.take' n t)
theorem RepL.drop' {K : PySem.W.Frag} {μ : Mu} {H : Hp} : ∀ {xs : List V} {ds : List D} (n : Nat), RepL K μ H xs ds → RepL K μ H (xs.drop n) (ds.drop n)
  | _, _, 0, h => h
  | _, _, n + 1, .nil => .nil
  | _, _, n + 1, .cons h t => RepL.drop' n t
theorem cut_rep {K : PySem.W.Frag} {μ : Mu} {H : Hp} {xs : List V} {ds : List D} (lo hi : Option Int) (h : RepL K μ H xs ds) : RepL K μ H (cutV xs lo hi) (cutD ds lo hi) := by
  unfold cutV cutD
  rw [h.length]
  exact RepL.take' _ (RepL.drop' _ h)
theorem cut_whole {ds : List D} {lo hi : Option Int} (h1 : HT.sIx ds.length 0 lo = 0) (h2 : HT.sIx ds.length ds.length hi = ds.length) : cutD ds lo hi = ds := by
  unfold cutD
  rw [h1, h2]
  exact List.take_length ..
theorem se_slice {e : Expr} {lo hi : Option Expr} {pos p2 : Pos} {ma : Env → M D} {ml mh : Env → M (Option Int)} (ha : SE X E e ma) (hl : SO X E lo ml) (hh : SO X E hi mh) : SE X E (.Subscript e (.Slice lo hi none p2) pos) (slM ma ml mh) :=
  PE.imp (pe_slice (SlR.or sl_list (SlR.or sl_tupA sl_str)) ha hl hh) (by
  rintro σ H Q ⟨μ, env, s, hv, hs, post⟩
  refine ⟨μ, env, s, hv, hs, (Post.bind post).mono fun x s1 μ1 H1 g1 hs1 p1 v hx => ⟨μ1, env, s1, hv.grow g1, hs1, (Post.bind p1).mono fun l s2 μ2 H2 g2 hs2 p2 => ⟨μ2, env, s2, (hv.grow g1).grow g2, hs2, (Post.bind p2).mono fun h s3 μ3 H3 g3 hs3 p3 => ?_⟩⟩⟩
  have hx3 := Rep.grow (g2.trans g3) x v hx
  unfold slD at p3
  cases hx3 with
  | @tup a xs ds ht hl =>
    refine .inr (.inl ⟨a, xs, rfl, ht, fun hw => ?_, fun _ => ?_⟩)
    · rw [hl.length] at hw
      simp only [cut_whole hw.1 hw.2] at p3
      exact post_val hs3 p3 (.tup ht hl)
    · exact post_tup hs3 (cut_rep l h hl) p3
  | @flst a xs ds ht hl => exact .inl ⟨a, xs, rfl, ht.sqL, post_vls hs3 (cut_rep l h hl) p3⟩
  | @vls a xs ds ht hl => exact .inl ⟨a, xs, rfl, ht.sqL, post_vls hs3 (cut_rep l h hl) p3⟩
  | str z =>
    simp only [] at p3
    split at p3
    · rename_i hz
      exact .inr (.inr ⟨z, rfl, sz_ok hz, post_val hs3 p3 (.str _)⟩)
    · exact (show False from p3).elim
  | @ptr a n hn =>
    simp only [] at p3
    cases ec : s3[n]? with
    | none => simp only [ec] at p3; exact (show False from p3).elim
    | some c =>
      simp only [ec] at p3
      cases c with
      | lst ds =>
        obtain ⟨xs, h1, hl⟩ := cell_lst hs3 hn ec
        exact .inl ⟨a, xs, rfl, SqL.of h1, post_vls hs3 (cut_rep l h hl) p3⟩
      | dK kvs => exact (show False from p3).elim
      | dT kvs => exact (show False from p3).elim
      | ins C fs => exact (show False from p3).elim
      | fK kvs => exact (show False from p3).elim
  | _ => exact (show False from p3).elim)
end
end PL

/-! PL10: dicts with keys that are texts or integers: stores, displays, get, pop, copies. -/
namespace PL
open PySem PySem.Spec PyProof.Rows L2
def putKD (kvs : List (Key × D)) (k : Key) (v : D) : List (Key × D) :=
  if (kvs.any fun kv => decide (kv.1 = k)) = true then kvs.map (fun kv => if kv.1 = k then (kv.1, v) else kv) else kvs ++ [(k, v)]
def dropKD (kvs : List (Key × D)) (k : Key) : List (Key × D) := kvs.filter fun kv => decide (kv.1 ≠ k)
theorem any_rep {K : PySem.W.Frag} {μ : Mu} {H : Hp} {k : Key} : ∀ {xs : List (Key × V)} {ds : List (Key × D)}, RepK K μ H xs ds → (xs.any fun kv => decide (kv.1 = k)) = ds.any fun kv => decide (kv.1 = k)
  | [], [], _ => rfl
  | [], q :: ds, h => by have := h.1; simp at this
  | p :: xs, [], h => by have := h.1; simp at this
  | p :: xs, q :: ds, ⟨h1, h2⟩ => by
    rw [List.map_cons, List.map_cons] at h1 h2
    cases h2 with
    | cons r t => rw [List.any_cons, List.any_cons, (List.cons.inj h1).1, any_rep ⟨(List.cons.inj h1).2, t⟩]
theorem repl_rep {K : PySem.W.Frag} {μ : Mu} {H : Hp} {k : Key} {v : V} {d : D} (r0 : Rep K μ H v d) : ∀ {xs : List (Key × V)} {ds : List (Key × D)}, RepK K μ H xs ds → RepK K μ H (xs.map fun kv => if kv.1 = k then (kv.1, v) else kv) (ds.map fun kv => if kv.1 = k then (kv.1, d) else kv)
  | [], [], h => h
  | [], q :: ds, h => by have := h.1; simp at this
  | p :: xs, [], h => by have := h.1; simp at this
  | p :: xs, q :: ds, ⟨h1, h2⟩ => by
    rw [List.map_cons, List.map_cons] at h1 h2
    cases h2 with
    | cons r t =>
      obtain ⟨i1, i2⟩ := repl_rep r0 (k := k) ⟨(List.cons.inj h1).2, t⟩
      have e := (List.cons.inj h1).1
      unfold RepK
      rw [List.map_cons, List.map_cons, List.map_cons, List.map_cons, List.map_cons, List.map_cons]
      by_cases hk : q.1 = k
      · rw [if_pos hk, if_pos (e.trans hk)]
        exact ⟨by rw [i1, e], .cons r0 i2⟩
      · rw [if_neg hk, if_neg (fun z => hk (e.symm.trans z))]
        exact ⟨by rw [i1, e], .cons r i2⟩
theorem RepL.snoc {K : PySem.W.Frag} {μ : Mu} {H : Hp} {v : V} {d : D} (r : Rep K μ H v d) : ∀ {xs : List V} {ds : List D}, RepL K μ H xs ds → RepL K μ H (xs ++ [v]) (ds ++ [d])
  | _, _, .nil => .cons r .nil
  | _, _, .cons h t => .cons h (RepL.snoc r t)
theorem putK_rep {K : PySem.W.Frag} {μ : Mu} {H : Hp} {k : Key} {v : V} {d : D} {xs : List (Key × V)} {ds : List (Key × D)} (h : RepK K μ H xs ds) (r : Rep K μ H v d) : RepK K μ H (putK xs k v) (putKD ds k d) := by
  unfold putK putKD
  rw [any_rep h]
  split
  · exact repl_rep r h
  · refine ⟨by rw [List.map_append, List.map_append, h.1]; rfl, ?_⟩
    rw [List.map_append, List.map_append]
    exact RepL.snoc r h.2
theorem dropK_rep {K : PySem.W.Frag} {μ : Mu} {H : Hp} {k : Key} : ∀ {xs : List (Key × V)} {ds : List (Key × D)}, RepK K μ H xs ds → RepK K μ H (dropK xs k) (dropKD ds k)
  | [], [], h => h
  | [], q :: ds, h => by have := h.1; simp at this
  | p :: xs, [], h => by have := h.1; simp at this
  | p :: xs, q :: ds, ⟨h1, h2⟩ => by
    rw [List.map_cons, List.map_cons] at h1 h2
    cases h2 with
    | cons r t =>
      obtain ⟨i1, i2⟩ := dropK_rep (k := k) ⟨(List.cons.inj h1).2, t⟩
      have e := (List.cons.inj h1).1
      unfold dropK dropKD at *
      by_cases hk : q.1 = k
      · rw [List.filter_cons_of_neg (by have := e.trans hk; simp [this]), List.filter_cons_of_neg (by simp [hk])]
        exact ⟨i1, i2⟩
      · rw [List.filter_cons_of_pos (by have : ¬ p.1 = k := fun z => hk (e.symm.trans z); simp [this]), List.filter_cons_of_pos (by simp [hk])]
        unfold RepK
        rw [List.map_cons, List.map_cons, List.map_cons, List.map_cons]
        exact ⟨by rw [i1, e], .cons r i2⟩
theorem RepK.length {κ : Type} {K : PySem.W.Frag} {μ : Mu} {H : Hp} {xs : List (κ × V)} {ds : List (κ × D)} (h : RepK K μ H xs ds) : xs.length = ds.length := by
  have e := congrArg List.length h.1
  rw [List.length_map, List.length_map] at e
  exact e
theorem line_of {n : Nat} (h : n < 100000) : n < sizeLine := Nat.lt_of_lt_of_le h (by decide)
/-! ### stores -/
def setXD (o i v : D) : M Unit := match o with
  | .ptr n => fun s => match s[n]? with
    | some (.lst ds) => putL ds i v n s
    | some (.dK kvs) => (match dKey i with
      | some k => if kvs.length < 100000 then .ok () (s.set n (.dK (putKD kvs k v))) else .stuck
      | none => .stuck)
    | _ => .stuck
  | _ => stuck
def rSetX (o i v : V) (H : Hp) (Q : Hp → Prop) : Prop := rSetL o i v H Q ∨ ∃ a H', o = .ref a ∧ DPut H a i v H' ∧ Q H'
section
variable {X : Cx} {E : XK}
theorem set_any (hu : X.A.units + 1 < cLine) : PSet X rSetX := by
  intro pins s σ H o i v ov iv u Q I ro ri rv h
  rcases h with h | ⟨a, H', rfl, g, q⟩
  · exact set_list pins s σ H o i v ov iv u Q I ro ri rv h
  · obtain rfl : ov = Value.ref a := ro
    exact d_setItem hu I g ri rv fun s1 I1 => ⟨H', I1, q⟩
theorem put_cell {K : PySem.W.Frag} {μ : Mu} {H : Hp} {s : S} {n : Nat} {a : Addr} {xs ys : List (Key × V)} {kvs : List (Key × D)} (hs : SimS K μ H s) (hn : μ.c[n]? = some a) (h : H a = some (.dK xs)) (l : RepK K μ H ys kvs) :
    Grow μ H μ (upd H a (.dK ys)) ∧ SimS K μ (upd H a (.dK ys)) (s.set n (.dK kvs)) := by
  have hm : Mut (H a) := by rw [h]; trivial
  have g := grow_put (μ := μ) (H := H) (a := a) (o := .dK ys) hm (List.mem_of_getElem? hn)
  exact ⟨g, hs.put hn hm ⟨_, upd_same, l.grow g⟩⟩
theorem setX_ok {K : PySem.W.Frag} {μ : Mu} {H : Hp} {s : S} {o i v : D} {x y z : V} {q : Unit → S → Mu → Hp → Prop} (hs : SimS K μ H s) (ro : Rep K μ H x o) (ri : Rep K μ H y i) (rv : Rep K μ H z v) (post : Post K E μ H (setXD o i v s) q) :
    rSetX x y z H (fun H' => ∃ s', Grow μ H μ H' ∧ SimS K μ H' s' ∧ q () s' μ H') := by
  cases ro with
  | @ptr a n hn =>
    cases ec : s[n]? with
    | none => unfold setXD at post; simp only [ec] at post; exact (show False from post).elim
    | some cl =>
      cases cl with
      | lst ds =>
        refine .inl (setL_ok (E := E) (o := .ptr n) (i := i) (v := v) hs (.ptr hn) ri rv ?_)
        unfold setXD at post
        unfold setLD
        simp only [ec] at post ⊢
        exact post
      | dK kvs =>
        unfold setXD at post
        simp only [ec] at post
        cases ek : dKey i with
        | none => simp only [ek] at post; exact (show False from post).elim
        | some k =>
          simp only [ek] at post
          split at post
          · rename_i hz
            obtain ⟨xs, h1, h2⟩ := cell_dK hs hn ec
            have eu := dKey_rep ek ri
            subst eu
            obtain ⟨g, hs'⟩ := put_cell hs hn h1 (putK_rep (k := k) h2 rv)
            exact .inr ⟨a, _, rfl, DPut.k h1 (line_of (by rw [h2.length]; exact hz)), _, g, hs', post _ _ g hs'⟩
          · exact (show False from post).elim
      | dT kvs => unfold setXD at post; simp only [ec] at post; exact (show False from post).elim
      | ins C fs => unfold setXD at post; simp only [ec] at post; exact (show False from post).elim
      | fK kvs => unfold setXD at post; simp only [ec] at post; exact (show False from post).elim
  | _ => exact (show False from post).elim
theorem sg_subX {a b : Expr} {ma mb : Env → M D} {pos : Pos} (hu : X.A.units + 1 < cLine) (ha : SE X E a ma) (hb : SE X E b mb) (hh : ∀ v, assign (.Subscript a b pos) X.env v = (do
      let ov ← holding [v] (eval a X.env)
      let iv ← holding [v, ov] (eval b X.env)
      standAt pos
      holding [v, ov, iv] (setItem ov iv v)
      release [v, ov, iv] []) := by intro _; rfl) : SG X E (.Subscript a b pos) (gSubM ma mb setXD) := PG.imp (pg_sub ha hb (set_any hu) hh) (by
  rintro v σ H Q ⟨μ, env, s, d, hv, hs, r, post⟩
  refine ⟨μ, env, s, hv, hs, (Post.bind post).mono fun o s1 μ1 H1 g1 hs1 p1 x hx => ?_⟩
  refine ⟨μ1, env, s1, hv.grow g1, hs1, (Post.bind p1).mono fun i s2 μ2 H2 g2 hs2 p2 y hy => ?_⟩
  have z := setX_ok hs2 (Rep.grow g2 o x hx) hy (Rep.grow (g1.trans g2) d v r) (Post.bind p2)
  rcases z with ⟨a, xs, k, j, e1, e2, h1, h2, s3, g3, hs3, q3⟩ | ⟨a, H', e1, h1, s3, g3, hs3, q3⟩
  · exact .inl ⟨a, xs, k, j, e1, e2, h1, h2, Post.now (a := env) q3 hs3 _ (((hv.grow g1).grow g2).grow g3)⟩
  · exact .inr ⟨a, H', e1, h1, Post.now (a := env) q3 hs3 _ (((hv.grow g1).grow g2).grow g3)⟩)
/-! ### displays -/
theorem post_dict {K : PySem.W.Frag} {μ : Mu} {H : Hp} {s : S} {kvs : List (Key × D)} {xs : List (Key × V)} {Q : VK} (hs : SimS K μ H s) (r : RepK K μ H xs kvs) (h : Post K E μ H (allocC (.dK kvs) s) (okD K Q)) : ∀ p, H p = none → Q (.ref p) (upd H p (.dK xs)) := fun p hp => by
  have hs2 : SimS K (μ.add p) (upd H p (.dK xs)) (s ++ [.dK kvs]) := hs.alloc hp ⟨xs, upd_same, r.grow (grow_cell hp)⟩
  exact h _ _ (grow_cell hp) hs2 (.ref p) (.ptr (add_at hs))
theorem se_dnew {pos : Pos} : SE X E (.Dict [] [] pos) (fun _ => allocC (.dK [])) := PE.imp pe_dnewK (by
  rintro σ H Q ⟨μ, env, s, hv, hs, post⟩
  exact post_dict (xs := []) hs ⟨rfl, .nil⟩ post)
/-- the pairs of a display -/
def pNil (_ : Env) : M (List (D × D)) := pure []
def pCons (mk mv : Env → M D) (mr : Env → M (List (D × D))) (env : Env) : M (List (D × D)) := mk env >>= fun k => mv env >>= fun v => mr env >>= fun r => pure ((k, v) :: r)
def dKeys : List (D × D) → Option (List (Key × D)) := mapO fun p => (dKey p.1).map fun k => (k, p.2)
def mergeKD (kvs more : List (Key × D)) : List (Key × D) := more.foldl (fun acc kv => putKD acc kv.1 kv.2) kvs
def fillC (n : Nat) (ps : List (D × D)) : M D := fun s => match s[n]?, dKeys ps with
  | some (.dK []), some kvs => if kvs.length ≤ 15 then .ok (.ptr n) (s.set n (.dK (mergeKD [] kvs))) else .stuck
  | _, _ => .stuck
def dispM (mr : Env → M (List (D × D))) (env : Env) : M D := allocC (.dK []) >>= fun p => mr env >>= fun ps => match p with
  | .ptr n => fillC n ps
  | _ => stuck
/-- each pair stands for the other -/
def RepP (K : PySem.W.Frag) (μ : Mu) (H : Hp) (ps : List (V × V)) (ds : List (D × D)) : Prop := RepL K μ H (ps.map (·.1)) (ds.map (·.1)) ∧ RepL K μ H (ps.map (·.2)) (ds.map (·.2))
def TPof (K : PySem.W.Frag) (E : XK) (m : Env → M (List (D × D))) : L2.St → Hp → (List (V × V) → Hp → Prop) → Prop := fun σ H Q => ∃ μ env s, SimV K μ H σ env ∧ SimS K μ H s ∧ Post K E μ H (m env s) (fun ds _ μ' H' => ∀ ps, RepP K μ' H' ps ds → Q ps H')
structure SPs (X : Cx) (E : XK) (pos : Pos) (keys : List (Option Expr)) (values : List Expr) (m : Env → M (List (D × D))) : Prop where
  run : ∃ trs, PPs X pos keys values trs ∧ ∀ σ H Q, TPof X.K E m σ H Q → tPairs trs σ H Q
theorem sps_nil {pos : Pos} : SPs X E pos [] [] pNil := ⟨[], pps_nil, by
  rintro σ H Q ⟨μ, env, s, hv, hs, post⟩
  exact Post.now (a := ([] : List (D × D))) post hs [] ⟨.nil, .nil⟩⟩
theorem sps_cons {pos : Pos} {k v : Expr} {ks : List (Option Expr)} {vs : List Expr} {mk mv : Env → M D} {mr : Env → M (List (D × D))} (hk : SE X E k mk) (hv : SE X E v mv) (hr : SPs X E pos ks vs mr) : SPs X E pos (some k :: ks) (v :: vs) (pCons mk mv mr) := by
  obtain ⟨trs, h1, h2⟩ := hr
  refine ⟨(TEof X.K E mk, TEof X.K E mv) :: trs, pps_cons hk hv h1, ?_⟩
  rintro σ H Q ⟨μ, env, s, hv, hs, post⟩
  refine ⟨μ, env, s, hv, hs, (Post.bind post).mono fun dk s1 μ1 H1 g1 hs1 p1 x hx => ⟨μ1, env, s1, hv.grow g1, hs1, (Post.bind p1).mono fun dv s2 μ2 H2 g2 hs2 p2 y hy => h2 _ _ _ ⟨μ2, env, s2, (hv.grow g1).grow g2, hs2, (Post.bind p2).mono fun r s3 μ3 H3 g3 hs3 p3 ps hps => ?_⟩⟩⟩
  exact Post.now (a := (dk, dv) :: r) p3 hs3 ((x, y) :: ps) ⟨.cons (Rep.grow (g2.trans g3) _ _ hx) hps.1, .cons (Rep.grow g3 _ _ hy) hps.2⟩
theorem dKeys_rep {K : PySem.W.Frag} {μ : Mu} {H : Hp} : ∀ {ds : List (D × D)} {ps : List (V × V)} {kvs : List (Key × D)}, dKeys ds = some kvs → RepP K μ H ps ds → ∃ xs : List (Key × V), ps = xs.map (fun kv => (kV kv.1, kv.2)) ∧ RepK K μ H xs kvs
  | [], ps, kvs, e, ⟨h1, h2⟩ => by
    cases e
    cases ps with
    | nil => exact ⟨[], rfl, rfl, .nil⟩
    | cons p ps => rw [List.map_cons] at h1; cases h1
  | d :: ds, ps, kvs, e, ⟨h1, h2⟩ => by
    cases ps with
    | nil => rw [List.map_cons] at h1; cases h1
    | cons p ps =>
      rw [List.map_cons, List.map_cons] at h1 h2
      cases h1 with
      | cons r1 t1 =>
        cases h2 with
        | cons r2 t2 =>
          unfold dKeys mapO at e
          cases q : dKey d.1 with
          | none => rw [q] at e; cases e
          | some k =>
            rw [q] at e
            cases q2 : mapO (fun p : D × D => (dKey p.1).map fun k => (k, p.2)) ds with
            | none => rw [q2] at e; cases e
            | some ms =>
              rw [q2] at e
              cases e
              obtain ⟨xs, e1, e2, e3⟩ := dKeys_rep (ds := ds) q2 ⟨t1, t2⟩
              refine ⟨(k, p.2) :: xs, ?_, ?_, ?_⟩
              · rw [List.map_cons, ← e1, ← dKey_rep q r1]
              · rw [List.map_cons, List.map_cons, e2]
              · rw [List.map_cons, List.map_cons]
                exact .cons r2 e3
theorem merge_rep {K : PySem.W.Frag} {μ : Mu} {H : Hp} : ∀ {more : List (Key × V)} {md : List (Key × D)} {xs : List (Key × V)} {ds : List (Key × D)}, RepK K μ H more md → RepK K μ H xs ds → RepK K μ H (mergeK xs more) (mergeKD ds md)
  | [], [], xs, ds, _, h => h
  | [], q :: md, _, _, h, _ => by have := h.1; simp at this
  | p :: more, [], _, _, h, _ => by have := h.1; simp at this
  | p :: more, q :: md, xs, ds, ⟨h1, h2⟩, h => by
    rw [List.map_cons, List.map_cons] at h1 h2
    cases h2 with
    | cons r t =>
      show RepK K μ H (mergeK (putK xs p.1 p.2) more) (mergeKD (putKD ds q.1 q.2) md)
      have e := (List.cons.inj h1).1
      rw [e]
      exact merge_rep ⟨(List.cons.inj h1).2, t⟩ (putK_rep h r)
theorem se_disp {pos : Pos} {keys : List (Option Expr)} {values : List Expr} {mr : Env → M (List (D × D))} (h : SPs X E pos keys values mr) (hall : keys.all (·.isSome) = true := by rfl) (hl : keys.length = values.length := by rfl) (h0 : keys ≠ [] := by exact List.cons_ne_nil _ _)
    (h15 : keys.length ≤ 15 := by decide) : SE X E (.Dict keys values pos) (dispM mr) := by
  obtain ⟨trs, h1, h2⟩ := h
  refine PE.imp (pe_disp h1 hall hl h0 h15) ?_
  rintro σ H Q ⟨μ, env, s, hv, hs, post⟩ p hp
  have hs2 : SimS X.K (μ.add p) (upd H p (.dK [])) (s ++ [.dK []]) := hs.alloc hp ⟨[], upd_same, rfl, .nil⟩
  have g := grow_cell (μ := μ) (o := .dK []) hp
  have post1 : Post X.K E (μ.add p) (upd H p (.dK [])) ((mr env >>= fun ps => fillC s.length ps) (s ++ [.dK []])) (okD X.K Q) := Post.later g post
  refine h2 _ _ _ ⟨μ.add p, env, _, hv.grow g, hs2, (Post.bind post1).mono fun ds s1 μ1 H1 g1 hs1 p1 ps hps => ?_⟩
  have hat : μ1.c[s.length]? = some p := g1.at (add_at hs)
  unfold fillC at p1
  cases ec : s1[s.length]? with
  | none => simp only [ec] at p1; exact (show False from p1).elim
  | some cl =>
    simp only [ec] at p1
    split at p1
    · rename_i kvs e1 e2
      cases e1
      split at p1
      · rename_i hz
        obtain ⟨xs, f1, f2⟩ := cell_dK hs1 hat ec
        have fx : xs = [] := by
          have := f2.length
          exact List.length_eq_zero_iff.mp this
        subst fx
        obtain ⟨ys, y1, y2⟩ := dKeys_rep e2 hps
        refine ⟨f1, ys, y1, by rw [y2.length]; exact hz, ?_⟩
        obtain ⟨g2, hs3⟩ := put_cell hs1 hat f1 (merge_rep y2 (xs := []) (ds := []) ⟨rfl, .nil⟩)
        exact p1 _ _ g2 hs3 (.ref p) (.ptr hat)
      · exact (show False from p1).elim
    · exact (show False from p1).elim
end
end PL

/-! PL11: get, pop, dict(d), sorted(d). -/
namespace PL
open PySem PySem.Spec PyProof.Rows L2
def isDk (x : D) : M Unit := match x with
  | .ptr n => fun s => match s[n]? with
    | some (.dK _) => .ok () s
    | _ => .stuck
  | _ => stuck
def withK {α : Type} (x y : D) (F : List (Key × D) → Key → Nat → M α) : M α := match x with
  | .ptr n => fun s => match s[n]?, dKey y with
    | some (.dK kvs), some k => F kvs k n s
    | _, _ => .stuck
  | _ => stuck
def dgetD (x y z : D) : M D := withK x y fun kvs k _ s => .ok ((valD kvs k).getD z) s
/-- d.pop(k): there -/
def dpop1D (x y : D) : M D := withK x y fun kvs k n s => match valD kvs k with
  | some v => .ok v (s.set n (.dK (dropKD kvs k)))
  | none => .stuck
def dpop2D (x y z : D) : M D := withK x y fun kvs k n s => match valD kvs k with
  | some v => .ok v (s.set n (.dK (dropKD kvs k)))
  | none => .ok z s
def dm1 (f : D → D → M D) (mo me : Env → M D) (env : Env) : M D := mo env >>= fun x => isDk x >>= fun _ => me env >>= fun y => f x y
def dm2 (f : D → D → D → M D) (mo me mf : Env → M D) (env : Env) : M D := mo env >>= fun x => isDk x >>= fun _ => me env >>= fun y => mf env >>= fun z => f x y z
section
variable {X : Cx} {E : XK} {o e f : Expr} {mo me mf : Env → M D} {apos cpos : Pos}
theorem isDk_ok {K : PySem.W.Frag} {α : Type} {μ : Mu} {H : Hp} {s : S} {x : D} {v : V} {g : Unit → M α} {q : α → S → Mu → Hp → Prop} (hs : SimS K μ H s) (hx : Rep K μ H v x) (post : Post K E μ H ((isDk x >>= g) s) q) : ∃ a, v = .ref a ∧ IsD H a ∧ Post K E μ H (g () s) q := by
  rw [bind_run] at post
  unfold isDk at post
  cases hx with
  | @ptr a n hn =>
    cases ec : s[n]? with
    | none => simp only [ec] at post; exact (show False from post).elim
    | some cl =>
      simp only [ec] at post
      cases cl with
      | dK kvs =>
        obtain ⟨xs, h1, _⟩ := cell_dK hs hn ec
        exact ⟨a, rfl, .inl ⟨xs, .inl h1⟩, post⟩
      | lst ds => exact (show False from post).elim
      | dT kvs => exact (show False from post).elim
      | ins C fs => exact (show False from post).elim
      | fK kvs => exact (show False from post).elim
  | _ => exact (show False from post).elim
theorem val_rep {K : PySem.W.Frag} {μ : Mu} {H : Hp} {xs : List (Key × V)} {kvs : List (Key × D)} (h : RepK K μ H xs kvs) (k : Key) : (∃ v d, valV xs k = some v ∧ valD kvs k = some d ∧ Rep K μ H v d) ∨ (valV xs k = none ∧ valD kvs k = none) := by
  cases ev : valD kvs k with
  | none => exact .inr ⟨lmap_none h (by unfold valD at ev; exact ev), rfl⟩
  | some d =>
    obtain ⟨w, hw, r⟩ := lmap_fst h ev
    exact .inl ⟨w, d, hw, rfl, r⟩
/-- what the dict has, for a key -/
theorem cellK {K : PySem.W.Frag} {μ : Mu} {H : Hp} {s : S} {x y : D} {v u : V} {α : Type} {F : List (Key × D) → Key → Nat → M α} {q : α → S → Mu → Hp → Prop} (hs : SimS K μ H s) (hx : Rep K μ H v x) (hy : Rep K μ H u y)
    (post : Post K E μ H (withK x y F s) q) : ∃ a n xs kvs k, v = .ref a ∧ μ.c[n]? = some a ∧ H a = some (.dK xs) ∧ RepK K μ H xs kvs ∧ u = kV k ∧ s[n]? = some (.dK kvs) ∧ Post K E μ H (F kvs k n s) q := by
  unfold withK at post
  cases hx with
  | @ptr a n hn =>
    simp only [] at post
    cases ec : s[n]? with
    | none => simp only [ec] at post; exact (show False from post).elim
    | some cl =>
      cases ek : dKey y with
      | none => simp only [ec, ek] at post; exact (show False from post).elim
      | some k =>
        simp only [ec, ek] at post
        cases cl with
        | dK kvs =>
          obtain ⟨xs, h1, h2⟩ := cell_dK hs hn ec
          exact ⟨a, n, xs, kvs, k, rfl, hn, h1, h2, dKey_rep ek hy, ec, post⟩
        | lst ds => exact (show False from post).elim
        | dT kvs => exact (show False from post).elim
        | ins C fs => exact (show False from post).elim
        | fK kvs => exact (show False from post).elim
  | _ => exact (show False from post).elim
theorem se_get1 (hu : X.A.units + 1 < cLine) (ho : SE X E o mo) (he : SE X E e me) (m : M1 X o "get" apos e cpos) : SE X E (.Call (.Attribute o "get" apos) [e] [] cpos) (dm1 (fun x y => dgetD x y .non) mo me) := PE.imp (pe_dget1 hu ho he m) (by
  rintro σ H Q ⟨μ, env, s, hv, hs, post⟩
  refine ⟨μ, env, s, hv, hs, (Post.bind post).mono fun x s1 μ1 H1 g1 hs1 p1 v hx => ?_⟩
  obtain ⟨a, rfl, hd, p2⟩ := isDk_ok hs1 hx p1
  refine ⟨a, rfl, hd, μ1, env, s1, hv.grow g1, hs1, (Post.bind p2).mono fun y s2 μ2 H2 g2 hs2 p3 u hy => ?_⟩
  unfold dgetD at p3
  obtain ⟨b, n, xs, kvs, k, e1, hn, h1, h2, rfl, ec, p4⟩ := cellK hs2 (Rep.grow g2 _ _ hx) hy p3
  cases e1
  refine ⟨valV xs k, DGet.k h1, ?_⟩
  rcases val_rep h2 k with ⟨w, d, e1, e2, r⟩ | ⟨e1, e2⟩
  · rw [e1]
    rw [e2] at p4
    exact post_val hs2 p4 r
  · rw [e1]
    rw [e2] at p4
    exact post_val hs2 p4 .non)
theorem se_get2 (hu : X.A.units + 1 < cLine) (ho : SE X E o mo) (he : SE X E e me) (hf : SE X E f mf) (m : M2 X o "get" apos e f cpos) : SE X E (.Call (.Attribute o "get" apos) [e, f] [] cpos) (dm2 dgetD mo me mf) := PE.imp (pe_dget2 hu ho he hf m) (by
  rintro σ H Q ⟨μ, env, s, hv, hs, post⟩
  refine ⟨μ, env, s, hv, hs, (Post.bind post).mono fun x s1 μ1 H1 g1 hs1 p1 v hx => ?_⟩
  obtain ⟨a, rfl, hd, p2⟩ := isDk_ok hs1 hx p1
  refine ⟨a, rfl, hd, μ1, env, s1, hv.grow g1, hs1, (Post.bind p2).mono fun y s2 μ2 H2 g2 hs2 p3 u hy => ⟨μ2, env, s2, (hv.grow g1).grow g2, hs2, (Post.bind p3).mono fun z s3 μ3 H3 g3 hs3 p4 w hz => ?_⟩⟩
  unfold dgetD at p4
  obtain ⟨b, n, xs, kvs, k, e1, hn, h1, h2, rfl, ec, p5⟩ := cellK hs3 (Rep.grow (g2.trans g3) _ _ hx) (Rep.grow g3 _ _ hy) p4
  cases e1
  refine ⟨valV xs k, DGet.k h1, ?_⟩
  rcases val_rep h2 k with ⟨w, d, e1, e2, r⟩ | ⟨e1, e2⟩
  · rw [e1]
    rw [e2] at p5
    exact post_val hs3 p5 r
  · rw [e1]
    rw [e2] at p5
    exact post_val hs3 p5 hz)
theorem se_pop1 (ho : SE X E o mo) (he : SE X E e me) (m : M1 X o "pop" apos e cpos) : SE X E (.Call (.Attribute o "pop" apos) [e] [] cpos) (dm1 dpop1D mo me) := PE.imp (pe_dpop1 ho he m) (by
  rintro σ H Q ⟨μ, env, s, hv, hs, post⟩
  refine ⟨μ, env, s, hv, hs, (Post.bind post).mono fun x s1 μ1 H1 g1 hs1 p1 v hx => ?_⟩
  obtain ⟨a, rfl, hd, p2⟩ := isDk_ok hs1 hx p1
  refine ⟨a, rfl, hd, μ1, env, s1, hv.grow g1, hs1, (Post.bind p2).mono fun y s2 μ2 H2 g2 hs2 p3 u hy => ?_⟩
  unfold dpop1D at p3
  obtain ⟨b, n, xs, kvs, k, e1, hn, h1, h2, rfl, ec, p4⟩ := cellK hs2 (Rep.grow g2 _ _ hx) hy p3
  cases e1
  rcases val_rep h2 k with ⟨w, d, e1, e2, r⟩ | ⟨e1, e2⟩
  · refine ⟨xs, k, w, h1, rfl, e1, ?_⟩
    simp only [e2] at p4
    obtain ⟨g3, hs3⟩ := put_cell hs2 hn h1 (dropK_rep (k := k) h2)
    exact p4 _ _ g3 hs3 _ (Rep.grow g3 _ _ r)
  · simp only [e2] at p4
    exact (show False from p4).elim)
theorem se_pop2 (ho : SE X E o mo) (he : SE X E e me) (hf : SE X E f mf) (m : M2 X o "pop" apos e f cpos) : SE X E (.Call (.Attribute o "pop" apos) [e, f] [] cpos) (dm2 dpop2D mo me mf) := PE.imp (pe_dpop2 ho he hf m) (by
  rintro σ H Q ⟨μ, env, s, hv, hs, post⟩
  refine ⟨μ, env, s, hv, hs, (Post.bind post).mono fun x s1 μ1 H1 g1 hs1 p1 v hx => ?_⟩
  obtain ⟨a, rfl, hd, p2⟩ := isDk_ok hs1 hx p1
  refine ⟨a, rfl, hd, μ1, env, s1, hv.grow g1, hs1, (Post.bind p2).mono fun y s2 μ2 H2 g2 hs2 p3 u hy => ⟨μ2, env, s2, (hv.grow g1).grow g2, hs2, (Post.bind p3).mono fun z s3 μ3 H3 g3 hs3 p4 w hz => ?_⟩⟩
  unfold dpop2D at p4
  obtain ⟨b, n, xs, kvs, k, e1, hn, h1, h2, rfl, ec, p5⟩ := cellK hs3 (Rep.grow (g2.trans g3) _ _ hx) (Rep.grow g3 _ _ hy) p4
  cases e1
  refine ⟨xs, k, h1, rfl, fun v hv1 => ?_, fun hv1 => ?_⟩
  · rcases val_rep h2 k with ⟨w2, d, e1, e2, r⟩ | ⟨e1, e2⟩
    · rw [e1] at hv1
      cases hv1
      simp only [e2] at p5
      obtain ⟨g4, hs4⟩ := put_cell hs3 hn h1 (dropK_rep (k := k) h2)
      exact p5 _ _ g4 hs4 _ (Rep.grow g4 _ _ r)
    · rw [e1] at hv1
      cases hv1
  · rcases val_rep h2 k with ⟨w2, d, e1, e2, r⟩ | ⟨e1, e2⟩
    · rw [e1] at hv1
      cases hv1
    · simp only [e2] at p5
      exact post_val hs3 p5 hz)
end
/-! ### dict(d), a copy -/
def dictD (x : D) : M D := match x with
  | .ptr n => fun s => match s[n]? with
    | some (.dK kvs) => allocC (.dK kvs) s
    | _ => .stuck
  | _ => stuck
/-! ### sorted(d) of texts -/
def ltS (a b : Str) : Bool := decide (a.cps.toList < b.cps.toList)
def insS (p : Str) : List Str → List Str
  | [] => [p]
  | q :: r => if ltS q p = true then q :: insS p r else p :: q :: r
def sortS : List Str → List Str
  | [] => []
  | p :: r => insS p (sortS r)
def keyStr : Key × D → Option Str
  | (.inr x, _) => some x
  | _ => none
def kStrs : List (Key × D) → Option (List Str) := mapO keyStr
def sortedD (x : D) : M D := match x with
  | .ptr n => fun s => match s[n]? with
    | some (.dK kvs) => (match kStrs kvs with
      | some ks => if ks.length < 64 then .ok (.vls ((sortS ks).map D.str)) s else .stuck
      | none => .stuck)
    | _ => .stuck
  | _ => stuck
theorem insS_perm (p : Str) : ∀ l : List Str, (insS p l).Perm (p :: l)
  | [] => List.Perm.refl _
  | q :: r => by
    unfold insS
    split
    · exact ((insS_perm p r).cons q).trans (List.Perm.swap _ _ _)
    · exact List.Perm.refl _
theorem sortS_perm : ∀ l : List Str, (sortS l).Perm l
  | [] => List.Perm.refl _
  | p :: r => (insS_perm p _).trans ((sortS_perm r).cons p)
end PL

/-! PL12: instances of own classes: attributes, methods, making. -/
namespace PL
open PySem PySem.Spec PyProof.Rows L2
def putFD (f : Str) (v : D) : List (Str × D) → List (Str × D)
  | [] => [(f, v)]
  | (g, x) :: r => if g = f then (g, v) :: r else (g, x) :: putFD f v r
theorem cell_ins {K : PySem.W.Frag} {μ : Mu} {H : Hp} {s : S} {n : Nat} {a : Addr} {C : Str} {fs : List (Str × D)} (hs : SimS K μ H s) (ha : μ.c[n]? = some a) (e : s[n]? = some (.ins C fs)) : ∃ c dx xs, ClsAt K C c ∧ H a = some (.ins c dx xs) ∧ RepK K μ H xs fs := by
  obtain ⟨b, hb, hc⟩ := hs.cell n _ e
  rw [ha] at hb
  cases hb
  exact hc
theorem look_rep {K : PySem.W.Frag} {μ : Mu} {H : Hp} {f : Str} : ∀ {xs : List (Str × V)} {ds : List (Str × D)}, RepK K μ H xs ds → (xs.lookup f = none ∧ ds.lookup f = none) ∨ ∃ v d, xs.lookup f = some v ∧ ds.lookup f = some d ∧ Rep K μ H v d
  | [], [], _ => .inl ⟨rfl, rfl⟩
  | [], q :: ds, h => by have := h.1; simp at this
  | p :: xs, [], h => by have := h.1; simp at this
  | (g, v) :: xs, (g', d) :: ds, ⟨h1, h2⟩ => by
    rw [List.map_cons, List.map_cons] at h1 h2
    obtain rfl : g = g' := (List.cons.inj h1).1
    cases h2 with
    | cons r t =>
      by_cases hk : f = g
      · have hb : (f == g) = true := beq_iff_eq.mpr hk
        exact .inr ⟨v, d, by simp only [List.lookup, hb], by simp only [List.lookup, hb], r⟩
      · have hb : (f == g) = false := beq_eq_false_iff_ne.mpr hk
        rcases look_rep (f := f) ⟨(List.cons.inj h1).2, t⟩ with ⟨e1, e2⟩ | ⟨v', d', e1, e2, r'⟩
        · exact .inl ⟨by simp only [List.lookup, hb]; exact e1, by simp only [List.lookup, hb]; exact e2⟩
        · exact .inr ⟨v', d', by simp only [List.lookup, hb]; exact e1, by simp only [List.lookup, hb]; exact e2, r'⟩
theorem putF_rep {K : PySem.W.Frag} {μ : Mu} {H : Hp} {f : Str} {v : V} {d : D} (r0 : Rep K μ H v d) : ∀ {xs : List (Str × V)} {ds : List (Str × D)}, RepK K μ H xs ds → RepK K μ H (putF f v xs) (putFD f d ds)
  | [], [], _ => ⟨rfl, .cons r0 .nil⟩
  | [], q :: ds, h => by have := h.1; simp at this
  | p :: xs, [], h => by have := h.1; simp at this
  | (g, v') :: xs, (g', d') :: ds, ⟨h1, h2⟩ => by
    rw [List.map_cons, List.map_cons] at h1 h2
    obtain rfl : g = g' := (List.cons.inj h1).1
    cases h2 with
    | cons r t =>
      unfold putF putFD
      by_cases hk : g = f
      · rw [if_pos hk, if_pos hk]
        refine ⟨?_, ?_⟩
        · rw [List.map_cons, List.map_cons, (List.cons.inj h1).2]
        · rw [List.map_cons, List.map_cons]
          exact .cons r0 t
      · rw [if_neg hk, if_neg hk]
        obtain ⟨i1, i2⟩ := putF_rep r0 (f := f) ⟨(List.cons.inj h1).2, t⟩
        refine ⟨?_, ?_⟩
        · rw [List.map_cons, List.map_cons, i1]
        · rw [List.map_cons, List.map_cons]
          exact .cons r i2
/-- what is done with an instance of the class at C -/
def withI {α : Type} (C : Str) (x : D) (F : List (Str × D) → Nat → M α) : M α := match x with
  | .ptr n => fun s => match s[n]? with
    | some (.ins C' fs) => if C' = C then F fs n s else .stuck
    | _ => .stuck
  | _ => stuck
def fldD (C : Str) (f : Str) (x : D) : M D := withI C x fun fs _ s => match fs.lookup f with
  | some d => .ok d s
  | none => .stuck
def setF (C : Str) (f : Str) (v x : D) : M Unit := withI C x fun fs n s => if fs.length < 1000 then .ok () (s.set n (.ins C (putFD f v fs))) else .stuck
/-- o.f = v -/
def fldS (C : Str) (f : Str) (mv mo : Env → M D) (env : Env) : M Out := mv env >>= fun v => mo env >>= fun x => setF C f v x >>= fun _ => pure (.nx env)
def noF (C : Str) (m : Str) (x : D) : M Unit := withI C x fun fs _ s => if fs.lookup m = none then .ok () s else .stuck
def methI (C : Str) (m : Str) (n : Nat) (F : List D → M D) (mo : Env → M D) (ma : Env → M (List D)) (env : Env) : M D := mo env >>= fun x => noF C m x >>= fun _ => ma env >>= fun ds => lenM n F (x :: ds)
def makeI (C : Str) (n : Nat) (F : List D → M D) (ma : Env → M (List D)) (env : Env) : M D := ma env >>= fun ds => allocC (.ins C []) >>= fun x => lenM n F (x :: ds) >>= fun r => match r with
  | .non => pure x
  | _ => stuck
instance (o : Option D) : Decidable (o = none) := match o with
  | none => isTrue rfl
  | some _ => isFalse fun h => by cases h
section
variable {X : Cx} {E : XK}
theorem withI_ok {K : PySem.W.Frag} {α : Type} {C : Str} {cA : Addr} (hC : ClsAt K C cA) {μ : Mu} {H : Hp} {s : S} {x : D} {v : V} {F : List (Str × D) → Nat → M α} {q : α → S → Mu → Hp → Prop} (hs : SimS K μ H s) (hx : Rep K μ H v x) (post : Post K E μ H (withI C x F s) q) :
    ∃ a n dx xs fs, x = .ptr n ∧ v = .ref a ∧ μ.c[n]? = some a ∧ H a = some (.ins cA dx xs) ∧ RepK K μ H xs fs ∧ s[n]? = some (.ins C fs) ∧ Post K E μ H (F fs n s) q := by
  unfold withI at post
  cases hx with
  | @ptr a n hn =>
    simp only [] at post
    cases ec : s[n]? with
    | none => simp only [ec] at post; exact (show False from post).elim
    | some cl =>
      simp only [ec] at post
      cases cl with
      | ins C' fs =>
        simp only [] at post
        split at post
        · rename_i e
          subst e
          obtain ⟨c, dx, xs, hc, h1, h2⟩ := cell_ins hs hn ec
          rw [hc.inj hC] at h1
          exact ⟨a, n, dx, xs, fs, rfl, rfl, hn, h1, h2, ec, post⟩
        · exact (show False from post).elim
      | lst ds => exact (show False from post).elim
      | dK kvs => exact (show False from post).elim
      | dT kvs => exact (show False from post).elim
      | fK kvs => exact (show False from post).elim
  | _ => exact (show False from post).elim
theorem se_fld {C : Str} {cA : Addr} (hC : ClsAt X.K C cA) {f : Str} {e : Expr} {me : Env → M D} {pos : Pos} (c : Cls X.K cA) (na : NoAttr X.K cA f) (he : SE X E e me) (hb : attributeBase e f X.env (eval e X.env) = eval e X.env := by rfl) : SE X E (.Attribute e f pos) (unM (fldD C f) me) := PE.imp (pe_fld he hb) (by
  rintro σ H Q ⟨μ, env, s, hv, hs, post⟩
  refine ⟨μ, env, s, hv, hs, (Post.bind post).mono fun x s1 μ1 H1 g1 hs1 p1 v hx => ?_⟩
  obtain ⟨a, n, dx, xs, fs, rfl, rfl, hn, h1, h2, ec, p2⟩ := withI_ok hC hs1 hx p1
  rcases look_rep (f := f) h2 with ⟨e1, e2⟩ | ⟨w, d, e1, e2, r⟩
  · simp only [e2] at p2
    exact (show False from p2).elim
  · simp only [e2] at p2
    exact ⟨a, cA, dx, xs, w, rfl, h1, c, na, e1, post_val hs1 p2 r⟩)
theorem ss_fld {C : Str} {cA : Addr} (hC : ClsAt X.K C cA) {f : Str} {o value : Expr} {mo mv : Env → M D} {pos pos' : Pos} (c : Cls X.K cA) (na : NoAttr X.K cA f) (ho : SE X E o mo) (hv : SE X E value mv) (hsw : swapsWith value (some (.Attribute o f pos')) pos.line X.env = pure false := by rfl) :
    SS X E (.Assign [.Attribute o f pos'] value pos) (fldS C f mv mo) := PS.imp (ps_fld ho hv hsw) (by
  rintro Dd σ H ⟨μ, env, s, hv, hs, post⟩
  refine ⟨μ, env, s, hv, hs, (Post.bind post).mono fun v s1 μ1 H1 g1 hs1 p1 y hy => ⟨μ1, env, s1, hv.grow g1, hs1, (Post.bind p1).mono fun x s2 μ2 H2 g2 hs2 p2 u hx => ?_⟩⟩
  obtain ⟨a, n, dx, xs, fs, rfl, rfl, hn, h1, h2, ec, p3⟩ := withI_ok hC hs2 hx (Post.bind p2)
  by_cases hz : fs.length < 1000
  · simp only [hz, if_true] at p3
    have hm : Mut (H2 a) := by rw [h1]; trivial
    have r := putF_rep (f := f) (Rep.grow g2 _ _ hy) h2
    have g := grow_put (μ := μ2) (H := H2) (a := a) (o := .ins cA dx (putF f y xs)) hm (List.mem_of_getElem? hn)
    have hs3 : SimS X.K μ2 (upd H2 a (.ins cA dx (putF f y xs))) (s2.set n (.ins C (putFD f v fs))) := hs2.put hn hm ⟨cA, dx, _, hC, upd_same, r.grow g⟩
    refine ⟨a, cA, dx, xs, rfl, h1, c, na, by rw [h2.length]; exact hz, ?_⟩
    have p4 := p3 _ _ g hs3
    exact Post.now (a := Out.nx env) p4 hs3 _ (((hv.grow g1).grow g2).grow g)
  · simp only [hz, if_false] at p3
    exact (show False from p3).elim)
theorem te_meth2 {K : PySem.W.Frag} {C : Str} {cA : Addr} (hC : ClsAt K C cA) {m : Str} {n : Nat} {F : List D → M D} {mo : Env → M D} {ma : Env → M (List D)} : ∀ σ H Q, TEof K E (methI C m n F mo ma) σ H Q → tMeth cA m (spM K n F) [] E (TEof K E mo) (TAof K E ma) σ H Q := by
  rintro σ H Q ⟨μ, env, s, hv, hs, post⟩
  refine ⟨μ, env, s, hv, hs, (Post.bind post).mono fun x s1 μ1 H1 g1 hs1 p1 v hx => ?_⟩
  obtain ⟨a, j, dx, xs, fs, rfl, rfl, hn, h1, h2, ec, p2⟩ := withI_ok hC hs1 hx (Post.bind p1)
  by_cases hz : fs.lookup m = none
  · have hx2 : xs.lookup m = none := by
      rcases look_rep (f := m) h2 with ⟨e1, _⟩ | ⟨_, _, _, e2, _⟩
      · exact e1
      · rw [hz] at e2
        cases e2
    simp only [hz, if_true] at p2
    have p3 := Post.now (a := ()) p2 hs1
    refine ⟨a, dx, xs, rfl, h1, hx2, μ1, env, s1, hv.grow g1, hs1, (Post.bind p3).mono fun ds s2 μ2 H2 g2 hs2 p4 vs hl => ?_⟩
    unfold lenM at p4
    split at p4
    · rename_i hn2
      rw [List.append_nil]
      exact ⟨μ2, s2, _, hs2, .cons (Rep.grow g2 _ _ hx) hl, hn2, p4⟩
    · exact (show False from p4).elim
  · simp only [hz, if_false] at p2
    exact (show False from p2).elim
theorem se_methI {CX : CXT} {k n : Nat} {C : Str} {cA fa : Addr} (hC : ClsAt X.K C cA) {fd : FuncData} {ps : List Str} {F : List D → M D} {m : Str} {o e : Expr} {es : List Expr} {mo : Env → M D} {ma : Env → M (List D)} {apos pos : Pos} {pl : Sem Bool} (ho : SE X E o mo) (c : Cls X.K cA) (hm : Meth X.K cA m fa) (G : FnOk X.prog X.w X.K X.mg X.base CX k fa fd ps (spM X.K n F)) (hr : Room k X.A) (hb : Binds X.K fd ps []) (hx : Passes CX X E) (ha : SA X E (e :: es) ma)
    (hst : starEach (e :: es) X.env = (false, eval e X.env) :: starEach es X.env := by rfl) (hpl : (backTo pos (starEach es X.env)).any (·.1) = false := by rfl)
    (ht : eval (.Call (.Attribute o m apos) (e :: es) [] pos) X.env = (do
      let ov ← eval o X.env
      standAt apos.atName
      let (f, first) ← holding [ov] (getMethod ov m pl)
      callWith pos f first (backTo pos (starEach (e :: es) X.env)) (backToKw pos (keywordEach [] X.env))) := by rfl) : SE X E (.Call (.Attribute o m apos) (e :: es) [] pos) (methI C m n F mo ma) := PE.imp (pe_meth ho c hm G hr hb .nil hx ha hst hpl ht) (te_meth2 hC)
theorem se_methI0 {CX : CXT} {k n : Nat} {C : Str} {cA fa : Addr} (hC : ClsAt X.K C cA) {fd : FuncData} {ps : List Str} {F : List D → M D} {m : Str} {o : Expr} {mo : Env → M D} {apos pos : Pos} {pl : Sem Bool} (ho : SE X E o mo) (c : Cls X.K cA) (hm : Meth X.K cA m fa) (G : FnOk X.prog X.w X.K X.mg X.base CX k fa fd ps (spM X.K n F)) (hr : Room k X.A) (hb : Binds X.K fd ps []) (hx : Passes CX X E)
    (ht : eval (.Call (.Attribute o m apos) [] [] pos) X.env = (do
      let ov ← eval o X.env
      standAt apos.atName
      let (f, first) ← holding [ov] (getMethod ov m pl)
      callWith pos f first (backTo pos (starEach [] X.env)) (backToKw pos (keywordEach [] X.env))) := by rfl) : SE X E (.Call (.Attribute o m apos) [] [] pos) (methI C m n F mo nilA) := PE.imp (pe_meth0 ho c hm G hr hb .nil hx ht) (by
  intro σ H Q h
  obtain ⟨μ, env, s, hv, hs, q⟩ := te_meth2 hC σ H Q h
  refine ⟨μ, env, s, hv, hs, q.mono fun x s1 μ1 H1 g1 hs1 p v hx => ?_⟩
  obtain ⟨a, dx, xs, e1, h1, h2, μ2, env2, s2, hv2, hs2, p2⟩ := p v hx
  exact ⟨a, dx, xs, e1, h1, h2, Post.now (a := ([] : List D)) p2 hs2 [] .nil⟩)
theorem te_make {K : PySem.W.Frag} {C : Str} {cA : Addr} (hC : ClsAt K C cA) {n : Nat} {F : List D → M D} {ma : Env → M (List D)} : ∀ σ H Q, TEof K E (makeI C n F ma) σ H Q → tMake cA (spM K n F) [] E (TAof K E ma) σ H Q := by
  rintro σ H Q ⟨μ, env, s, hv, hs, post⟩
  refine ⟨μ, env, s, hv, hs, (Post.bind post).mono fun ds s1 μ1 H1 g1 hs1 p1 vs hl x dx hx hdx hne => ?_⟩
  have g2 : Grow μ1 H1 μ1 (upd H1 dx (.own x)) := grow_new hdx
  have hs2 : SimS K μ1 (upd H1 dx (.own x)) s1 := hs1.lay hdx
  have hx2 : upd H1 dx (.own x) x = none := by rw [upd_ne (Ne.symm hne)]; exact hx
  have g3 : Grow μ1 (upd H1 dx (.own x)) (μ1.add x) (upd (upd H1 dx (.own x)) x (.ins cA dx [])) := grow_cell hx2
  have hs3 : SimS K (μ1.add x) (upd (upd H1 dx (.own x)) x (.ins cA dx [])) (s1 ++ [.ins C []]) := hs2.alloc hx2 ⟨cA, dx, [], hC, upd_same, rfl, .nil⟩
  have hat : (μ1.add x).c[s1.length]? = some x := add_at hs1
  have p2 : Post K E (μ1.add x) (upd (upd H1 dx (.own x)) x (.ins cA dx [])) ((lenM n F (.ptr s1.length :: ds) >>= fun r => match r with
      | .non => pure (.ptr s1.length)
      | _ => stuck) (s1 ++ [.ins C []])) (okD K Q) := Post.later (g2.trans g3) p1
  have p3 := Post.bind p2
  unfold lenM at p3
  split at p3
  · rename_i hn
    rw [List.append_nil]
    refine ⟨_, _, _, hs3, .cons (.ptr hat) (RepL.grow (g2.trans g3) _ _ hl), hn, p3.mono fun r s4 μ4 H4 g4 hs4 p4 v hv4 => ?_⟩
    cases hv4 with
    | non => exact ⟨rfl, Post.now (a := D.ptr s1.length) p4 hs4 _ (.ptr (g4.at hat))⟩
    | _ => exact (show False from p4).elim
  · exact (show False from p3).elim
theorem se_make {CX : CXT} {k n : Nat} {C : Str} {cA fa : Addr} (hC : ClsAt X.K C cA) {fd : FuncData} {ps : List Str} {F : List D → M D} {x : Str} {e : Expr} {es : List Expr} {ma : Env → M (List D)} {p pos : Pos} (Mm : Mk X.K cA fa) (G : FnOk X.prog X.w X.K X.mg X.base CX k fa fd ps (spM X.K n F)) (hr : Room (k + 1) X.A) (hg : Gl X x) (hm : X.mg x = some (.ref cA)) (hb : Binds X.K fd ps []) (hx : Passes CX X E)
    (ha : SA X E (e :: es) ma) (hdb : (x == ("__debug__" : Str)) = false := by decide) (he : starEach (e :: es) X.env = (false, eval e X.env) :: starEach es X.env := by rfl) (hpl : (backTo pos (starEach es X.env)).any (·.1) = false := by rfl) :
    SE X E (.Call (.Name x p) (e :: es) [] pos) (makeI C n F ma) := PE.imp (pe_make Mm G hr hg hm hb .nil hx ha hdb he hpl) (te_make hC)
end
end PL

namespace PL
open PySem PySem.Spec PyProof.Rows L2
theorem units66 {k : Nat} {A : Around} (r : Room k A) : A.units + 65 < cLine := by have := r.un; omega
end PL

/-! PL14: x[::-1] of tuples and lists. -/
namespace PL
open PySem PySem.Spec PyProof.Rows L2 HT
section
variable {prog : Program} {w : World} {A : Around} {E : Value → Shared → Prop} {s : Shared}
theorem adjust_rev (n : Nat) : Builtin.Slice.sliceAdjust none none (-1) (n : Int) = ((n : Int) - 1, -1) := rfl
theorem places_rev (n : Nat) : Builtin.Slice.slicePlaces ((n : Int) - 1) (-1) (-1) = n := by
  unfold Builtin.Slice.slicePlaces
  rw [if_neg (by decide)]
  have h1 : -(-1 : Int) = 1 := rfl
  rw [h1, Int.ediv_one]
  split <;> omega
theorem sliceApplied_rev {sl : Addr} {t : Tok} {n : Nat} {Q : Int × Int × Nat → Shared → Prop} (hs : s.heap.IsSliceOf sl .none .none (.int (-1) t)) (h : Q ((n : Int) - 1, -1, n) s) : wpAny (model prog w) A (Builtin.Slice.sliceApplied (.ref sl) (pure (n : Int))) Q E s := by
  obtain ⟨os, hos, hcs, hds⟩ := id hs
  unfold Builtin.Slice.sliceApplied Builtin.Slice.sliceFields
  refine wpAny_bind (wpAny_bind (wpAny_field hos hds (x := .none) rfl (wpAny_bind (wpAny_field hos hds (x := .none) rfl (wpAny_bind (wpAny_field hos hds (x := .int (-1) t) rfl (wpAny_pure ?_)))))))
  refine wpAny_bind (slicePart_int ?_)
  show wpAny _ _ (if ((-1 : Int) == 0) = true then _ else _) _ _ s
  rw [if_neg (by decide)]
  refine wpAny_bind (slicePart_none (wpAny_bind (slicePart_none (wpAny_bind (wpAny_pure ?_)))))
  show wpAny _ _ (match Builtin.Slice.sliceAdjust none none (-1) (n : Int) with | (lo, hi) => pure (lo, (-1 : Int), Builtin.Slice.slicePlaces lo hi (-1))) _ _ s
  rw [adjust_rev n]
  show wpAny _ _ (pure ((n : Int) - 1, (-1 : Int), Builtin.Slice.slicePlaces ((n : Int) - 1) (-1) (-1))) _ _ s
  rw [places_rev]
  exact wpAny_pure h
theorem range_rev {α : Type} : ∀ l : List α, (List.range l.length).filterMap (fun m => l[l.length - 1 - m]?) = l.reverse := fun l => by
  have e2 : (List.range l.length).map (fun m => l[l.length - 1 - m]?) = l.reverse.map some := by
    refine List.ext_getElem? fun j => ?_
    rw [List.getElem?_map, List.getElem?_map]
    by_cases hj : j < l.length
    · rw [List.getElem?_range hj, List.getElem?_reverse hj]
      show some (l[l.length - 1 - j]?) = (l[l.length - 1 - j]?).map some
      rw [List.getElem?_eq_getElem (by omega)]
      rfl
    · rw [List.getElem?_eq_none (by rw [List.length_range]; omega), List.getElem?_eq_none (by rw [List.length_reverse]; omega)]
      rfl
  have e3 : (List.range l.length).filterMap (fun m => l[l.length - 1 - m]?) = ((List.range l.length).map (fun m => l[l.length - 1 - m]?)).filterMap id := by
    rw [List.filterMap_map]
    rfl
  rw [e3, e2, List.filterMap_map]
  show (l.reverse.filterMap fun a => some a) = _
  rw [List.filterMap_some]
theorem pick_rev (xs : Array Value) : ((List.range xs.size).filterMap fun (m : Nat) => xs[(((xs.size : Int) - 1) + (m : Int) * (-1)).toNat]?).toArray = xs.toList.reverse.toArray := by
  obtain ⟨l⟩ := xs
  congr 1
  show ((List.range l.length).filterMap fun (m : Nat) => (⟨l⟩ : Array Value)[(((l.length : Int) - 1) + (m : Int) * (-1)).toNat]?) = l.reverse
  rw [← range_rev l]
  have : (fun (m : Nat) => (⟨l⟩ : Array Value)[(((l.length : Int) - 1) + (m : Int) * (-1)).toNat]?) = fun m => l[l.length - 1 - m]? := by
    funext m
    rw [show (((l.length : Int) - 1) + (m : Int) * (-1)).toNat = l.length - 1 - m by omega]
    simp
  rw [this]
theorem getItem_tuple_rev {t sl : Addr} {tk : Tok} {items : Array Value} {Q : Value → Shared → Prop} (ht : IsTup s.heap t items) (hs : s.heap.IsSliceOf sl .none .none (.int (-1) tk))
    (h : Q (.ref s.heap.objs.size) { s with heap := s.heap.push { cls := .type "tuple", data := .seq items.toList.reverse.toArray } })
    (hsz : items.size ≤ sizeLine) : wpAny (model prog w) A (getItem (.ref t) (.ref sl)) Q E s := by
  have htake : sizeOk (.seq items.toList.reverse.toArray) := by
    show items.toList.reverse.toArray.size ≤ sizeLine
    rw [List.size_toArray, List.length_reverse, Array.length_toList]
    exact hsz
  obtain ⟨os, hos, hcs, hds⟩ := id hs
  have hTs : s.TypeIs (.ref sl) "slice" := ⟨os, hos, hcs⟩
  unfold getItem
  try with_reducible refine wpAny_holding ?_
  first | refine wpAny_bind (wpAny_pure ?_) | skip
  refine wpAny_bind (wpAny_sequenceKey ht.typeIs (by decide) ?_)
  refine wpAny_bind (wpAny_callSpecial?_slot (name := Str.ofString "__getitem__") ht.typeIs PyProof.Rows.slot_tuple_getitem
    (wpAny_call_entry PyProof.Rows.slot_tuple_getitem ht.typeIs entry_tuple_getitem ?_ (args_tuple_getitem _ _)))
  show wpAny _ _ (Builtin.Tuple.tupleItemsOf (.ref t) >>= _) _ _ s
  refine wpAny_bind (tupleItemsOf_ ht ?_)
  refine wpAny_bind (wpAny_typeOf hTs ?_)
  rw [if_pos (by decide)]
  refine wpAny_bind (sliceApplied_rev hs ?_)
  have hno : ¬ ((((items.size : Int) - 1) == 0 && (-1 : Int) == 1 && items.size == items.size) = true) := by
    intro q
    rw [Bool.and_eq_true, Bool.and_eq_true] at q
    exact absurd (eq_of_beq q.1.2) (by decide)
  show wpAny _ _ (if (((items.size : Int) - 1) == 0 && (-1 : Int) == 1 && items.size == items.size) = true then _ else _) _ _ s
  rw [if_neg hno, pick_rev]
  first
    | exact wpAny_bind (m := Builtin.Tuple.tupleExact _) (wpAny_newObj_type (wpAny_pure ⟨_, rfl, wpAny_pure h⟩) htake)
    | exact wpAny_bind (m := Builtin.Tuple.tupleExact _) (wpAny_newObj_type (wpAny_bind (wpAny_pure (wpAny_pure ⟨_, rfl, wpAny_pure h⟩))) htake)
    | exact wpAny_bind (wpAny_bind (m := Builtin.Tuple.tupleExact _) (wpAny_newObj_type (wpAny_pure (wpAny_pure ⟨_, rfl, wpAny_pure h⟩)) htake))
    | exact wpAny_bind (wpAny_bind (m := Builtin.Tuple.tupleExact _) (wpAny_newObj_type (wpAny_pure ⟨_, rfl, wpAny_pure h⟩) htake))
end
section
variable {X : Cx} {E : XK}
theorem vals_rev : ∀ {xs : List V} {us : List Value}, Vals xs us → Vals xs.reverse us.reverse
  | _, _, .nil => .nil
  | _, _, .cons h t => by
    rw [List.reverse_cons, List.reverse_cons]
    exact (vals_rev t).append (.cons h .nil)
def tRevT (K : PySem.W.Frag) (te : TE) : TE := fun σ H Q => te σ H fun x H1 => ∃ a xs, x = .ref a ∧ SqT K H1 a xs ∧ ∀ p, H1 p = none → Q (.ref p) (upd H1 p (.tup xs.reverse))
theorem pe_revT {e : Expr} {te : TE} {k : Nat} {p1 p2 p3 pos : Pos} (he : PE X e te) : PE X (.Subscript e (.Slice none none (some (.UnaryOp .USub (.Constant (.int 1) k p1) p2)) p3) pos) (tRevT X.K te) := by
  refine ⟨fun pins s σ H Q I h => ?_⟩
  refine Subscript_ (thn (he.run pins s σ H _ I h) fun v s1 ⟨x, H1, I1, r1, q1⟩ => ?_)
  obtain ⟨a, xs, ex, hx, q⟩ := q1
  subst ex
  cases r1
  have hst : PO X (some (.UnaryOp .USub (.Constant (.int 1) k p1) p2)) (tPart (tUn (rU fun i => .int (-i)) (tC (.int 1)))) := po_some (pe_un un_neg pe_int)
  refine wpAny_Slice (thn (po_none.run pins s1 σ H1 (fun o H2 => o = none ∧ H2 = H1) I1 ⟨rfl, rfl⟩) fun vl s2 ⟨l, H2, I2, pl, el, e2⟩ => ?_)
  subst el e2
  refine thn (po_none.run pins s2 σ H2 (fun o H3 => o = none ∧ H3 = H2) I2 ⟨rfl, rfl⟩) fun vu s3 ⟨u, H3, I3, pu, eu, e3⟩ => ?_
  subst eu e3
  refine thn (hst.run pins s3 σ H3 (fun o H4 => o = some (-1) ∧ H4 = H3) I3 ⟨1, rfl, -1, rfl, rfl, rfl⟩) fun vs s4 ⟨o, H4, I4, ps, eo, e4⟩ => ?_
  subst eo e4
  have I5 : Inv X pins σ H4 { s4 with heap := s4.heap.push { cls := .type "slice", data := .fields #[vl, vu, vs] } } := I4.kept (t' := s4.toks) fun b ob q => Heap.get?_push_of_some _ q
  obtain ⟨its, r, ht, hz⟩ := I5.tuple hx
  show wpAny (model X.prog X.w) X.A (subscriptTail e (.Slice none none (some (.UnaryOp .USub (.Constant (.int 1) k p1) p2)) p3) (.ref a) (.ref s4.heap.objs.size)) (EP X pins σ Q) X.xe { s4 with heap := s4.heap.push { cls := .type "slice", data := .fields #[vl, vu, vs] } }
  cases pl
  cases pu
  cases ps with
  | int i tk =>
  refine tail_any (ops := [.ref a, .ref s4.heap.objs.size]) ht.typeIs PyProof.Rows.slot_tuple_getitem.lookup ?_ (by with_unfolding_all rfl)
  refine getItem_tuple_rev ht (Heap.IsSliceOf.new _ _ _ _) ?_ (by rw [List.size_toArray, ← r.length]; exact hz)
  refine ⟨.ref _, _, I5.laid (t' := s4.toks) (o := .tup xs.reverse) (fun b ob q => Heap.get?_push_of_some _ q) (Nat.le_refl _) ?_, rfl, q _ (I5.hok.fresh (Nat.le_refl _))⟩
  exact ⟨by rw [List.length_reverse]; exact hz, its.reverse, vals_rev r, IsTup.new _ _⟩
def revD (x : D) : M D := match x with
  | .tup ds => pure (.tup ds.reverse)
  | .flst ds => pure (.vls ds.reverse)
  | .vls ds => pure (.vls ds.reverse)
  | .ptr n => fun s => match s[n]? with
    | some (.lst ds) => .ok (.vls ds.reverse) s
    | _ => .stuck
  | _ => stuck
theorem rev_rep {K : PySem.W.Frag} {μ : Mu} {H : Hp} : ∀ {xs : List V} {ds : List D}, RepL K μ H xs ds → RepL K μ H xs.reverse ds.reverse
  | _, _, .nil => .nil
  | _, _, .cons h t => by
    rw [List.reverse_cons, List.reverse_cons]
    exact RepL.snoc h (rev_rep t)
theorem se_rev {e : Expr} {me : Env → M D} {k : Nat} {p1 p2 p3 pos : Pos} (he : SE X E e me) : SE X E (.Subscript e (.Slice none none (some (.UnaryOp .USub (.Constant (.int 1) k p1) p2)) p3) pos) (unM revD me) := PE.imp (PE.or (pe_revT he) (pe_revL he)) (by
  rintro σ H Q ⟨μ, env, s, hv, hs, post⟩
  by_cases hd : ∃ ds s1, me env s = .ok (.tup ds) s1
  · obtain ⟨ds, s1, e1⟩ := hd
    refine .inl ⟨μ, env, s, hv, hs, ?_⟩
    have p0 := Post.bind post
    rw [e1] at p0 ⊢
    intro μ1 H1 g1 hs1 v hx
    have p1 := p0 μ1 H1 g1 hs1
    cases hx with
    | @tup a xs ds ht hl => exact ⟨a, xs, rfl, ht, post_tup hs1 (rev_rep hl) p1⟩
  · refine .inr ⟨μ, env, s, hv, hs, ?_⟩
    have p0 := Post.bind post
    cases e1 : me env s with
    | stuck => rw [e1] at p0; exact p0
    | exc c s1 => rw [e1] at p0; exact p0
    | ok x s1 =>
      rw [e1] at p0
      intro μ1 H1 g1 hs1 v hx
      have p1 := p0 μ1 H1 g1 hs1
      unfold revD at p1
      cases hx with
      | @tup a xs ds ht hl => exact (hd ⟨ds, s1, e1⟩).elim
      | @flst a xs ds ht hl => exact ⟨a, xs, rfl, ht.sqL, post_vls hs1 (rev_rep hl) p1⟩
      | @vls a xs ds ht hl => exact ⟨a, xs, rfl, ht.sqL, post_vls hs1 (rev_rep hl) p1⟩
      | @ptr a n hn =>
        simp only [] at p1
        cases ec : s1[n]? with
        | none => simp only [ec] at p1; exact (show False from p1).elim
        | some c =>
          simp only [ec] at p1
          cases c with
          | lst ds =>
            obtain ⟨xs, h1, hl⟩ := cell_lst hs1 hn ec
            exact ⟨a, xs, rfl, SqL.of h1, post_vls hs1 (rev_rep hl) p1⟩
          | dK kvs => exact (show False from p1).elim
          | dT kvs => exact (show False from p1).elim
          | ins C fs => exact (show False from p1).elim
          | fK kvs => exact (show False from p1).elim
      | _ => exact (show False from p1).elim)
end
end PL

/-! PL15: xs.pop(); sorted of a list of pairs of integers. -/
namespace PL
open PySem PySem.Spec PyProof.Rows L2
def lpopD (x : D) : M D := match x with
  | .ptr n => fun s => match s[n]? with
    | some (.lst ds) => (match ds[ds.length - 1]? with
      | some d => .ok d (s.set n (.lst ds.dropLast))
      | none => .stuck)
    | _ => .stuck
  | _ => stuck
section
variable {X : Cx} {E : XK} {o e : Expr} {mo me : Env → M D} {apos cpos p pos : Pos}
theorem RepL.dropLast {K : PySem.W.Frag} {μ : Mu} {H : Hp} : ∀ {xs : List V} {ds : List D}, RepL K μ H xs ds → RepL K μ H xs.dropLast ds.dropLast
  | _, _, .nil => .nil
  | _, _, .cons h .nil => .nil
  | _, _, .cons h (.cons h2 t) => .cons h (RepL.dropLast (.cons h2 t))
theorem se_lpop (ho : SE X E o mo) (hbase : attributeBase o "pop" X.env (eval o X.env) = eval o X.env := by rfl) (hline : (apos.endLine == cpos.line) = true := by rfl) : SE X E (.Call (.Attribute o "pop" apos) [] [] cpos) (unM lpopD mo) := PE.imp (pe_bm0 PySem.F.plainAttrs_list PySem.F.slot_list_pop PySem.F.type_list_pop mt_pop ho hbase hline) (by
  rintro σ H Q ⟨μ, env, s, hv, hs, post⟩
  refine ⟨μ, env, s, hv, hs, (Post.bind post).mono fun x s1 μ1 H1 g1 hs1 p1 v hx => ?_⟩
  unfold lpopD at p1
  cases hx with
  | @ptr a n hn =>
    simp only [] at p1
    cases ec : s1[n]? with
    | none => simp only [ec] at p1; exact (show False from p1).elim
    | some c =>
      simp only [ec] at p1
      cases c with
      | lst ds =>
        obtain ⟨xs, h1, hl⟩ := cell_lst hs1 hn ec
        simp only [] at p1
        cases ed : ds[ds.length - 1]? with
        | none => simp only [ed] at p1; exact (show False from p1).elim
        | some d =>
          simp only [ed] at p1
          obtain ⟨w, hw, r⟩ := hl.get ed
          rw [← hl.length] at hw
          exact ⟨.inl ⟨rfl, xs, SqL.of h1⟩, a, xs, w, rfl, rfl, h1, hw, put_lst hs1 hn h1 (RepL.dropLast hl) r p1⟩
      | dK kvs => exact (show False from p1).elim
      | dT kvs => exact (show False from p1).elim
      | ins C fs => exact (show False from p1).elim
      | fK kvs => exact (show False from p1).elim
  | _ => exact (show False from p1).elim)
/-! ### sorted(xs), pairs of integers -/
def rSortedPQ (K : PySem.W.Frag) : List V → Hp → VK → Prop := fun vs H Q => ∃ (a : Addr) (xs : List V) (ps : List (Int × Int)), vs = [V.ref a] ∧ SqL K H a xs ∧ KeysAt K H xs ps ∧ ∀ ys qs p, qs.Perm ps → qs.Pairwise (fun x y => SrtO.lexB y x = false) → KeysAt K H ys qs → H p = none → Q (.ref p) (upd H p (.lst ys))
theorem keys_pair {pins : List (Addr × Obj)} {σ : L2.St} {H : Hp} {s : Shared} (I : Inv X pins σ H s) : ∀ {xs : List V} {us : List Value} {ps : List (Int × Int)}, KeysAt X.K H xs ps → Vals xs us → us.map (kOf s.heap) = ps ∧ (∀ v ∈ us, Srt.IsPair s.heap v (kOf s.heap v).1 (kOf s.heap v).2) ∧ (∀ v ∈ us, ∃ b, v = .ref b ∧ SqT X.K H b [.int (kOf s.heap v).1, .int (kOf s.heap v).2])
  | _, _, _, .nil, .nil => ⟨rfl, fun _ h => (by cases h), fun _ h => (by cases h)⟩
  | _ :: _, u :: us, q :: ps, .cons h t, .cons r rt => by
    obtain ⟨h1, h2, h3⟩ := keys_pair I t rt
    obtain ⟨b, rfl, hb⟩ := h
    obtain rfl : u = Value.ref b := r
    obtain ⟨its, rv, ⟨o, ho, hc, n, hd⟩, _⟩ := I.tuple hb
    obtain ⟨u1, u2, rfl, ri, rj⟩ := vals2 rv
    obtain ⟨t1, rfl⟩ := ri
    obtain ⟨t2, rfl⟩ := rj
    have pr : Srt.IsPair s.heap (.ref b) q.1 q.2 := ⟨b, o, t1, t2, n, rfl, ho, hc, hd⟩
    have ek := kOf_pair pr
    refine ⟨by rw [List.map_cons, h1, ek], fun v hv => ?_, fun v hv => ?_⟩
    · rcases List.mem_cons.mp hv with rfl | hv
      · rw [ek]; exact pr
      · exact h2 v hv
    · rcases List.mem_cons.mp hv with rfl | hv
      · rw [ek]; exact ⟨b, rfl, hb⟩
      · exact h3 v hv
theorem cr_sortedPQ : CallR X (.builtin "sorted") (rSortedPQ X.K) := by
  intro pins s σ H vs us Q I r h
  obtain ⟨a, xs, ps, rfl, hs, hk, q⟩ := h
  obtain ⟨its, rv, hl, hz⟩ := I.list hs
  obtain ⟨u, rfl, ru⟩ := vals1 r
  obtain rfl : u = Value.ref a := ru
  obtain ⟨h1, h2, h3⟩ := keys_pair I hk rv
  refine SrtO.sorted_pairsO (k := kOf s.heap) hl.isList (by rw [← rv.length]; exact hz) h2 fun h' d out e1 e2 kp hd hn => ?_
  have hm : ∀ v ∈ out, ∃ b, v = .ref b ∧ SqT X.K H b [.int (kOf s.heap v).1, .int (kOf s.heap v).2] := fun v hv => h3 v (e2.perm.mem_iff.mp hv)
  have hkeys : KeysAt X.K H (out.map bkV) (out.map (kOf s.heap)) := by
    clear e1 e2 hn
    induction out with
    | nil => exact .nil
    | cons v out ih =>
      obtain ⟨b, eb, hb⟩ := hm v List.mem_cons_self
      refine .cons ⟨b, by rw [eb]; rfl, hb⟩ (ih fun u hu => hm u (List.mem_cons_of_mem _ hu))
  obtain ⟨n, hn⟩ := hn
  refine ⟨.ref d, upd H d (.lst (out.map bkV)), I.laid (t' := s.toks) kp hd ⟨?_, out, n, bkV_vals fun u hu => (let ⟨b, eb, _⟩ := hm u hu; ⟨b, eb⟩), hn⟩, rfl, q _ (out.map (kOf s.heap)) d ?_ ?_ hkeys (I.hok.fresh hd)⟩
  · rw [List.length_map, e2.perm.length_eq, ← rv.length]
    exact hz
  · rw [← h1]
    exact e2.perm.map _
  · exact List.pairwise_map.mpr e1
def insP (p : Int × Int) : List (Int × Int) → List (Int × Int)
  | [] => [p]
  | q :: r => if SrtO.lexB q p = true then q :: insP p r else p :: q :: r
def sortP : List (Int × Int) → List (Int × Int)
  | [] => []
  | p :: r => insP p (sortP r)
def LeP (x y : Int × Int) : Prop := SrtO.lexB y x = false
theorem LeP.iff {x y : Int × Int} : LeP x y ↔ x.1 < y.1 ∨ (x.1 = y.1 ∧ x.2 ≤ y.2) := by
  unfold LeP
  constructor
  · intro h
    have := SrtO.lexB_no.mp h
    omega
  · intro h
    refine SrtO.lexB_no.mpr ?_
    omega
theorem insP_perm (p : Int × Int) : ∀ l : List (Int × Int), (insP p l).Perm (p :: l)
  | [] => List.Perm.refl _
  | q :: r => by
    unfold insP
    split
    · exact ((insP_perm p r).cons q).trans (List.Perm.swap _ _ _)
    · exact List.Perm.refl _
theorem sortP_perm : ∀ l : List (Int × Int), (sortP l).Perm l
  | [] => List.Perm.refl _
  | p :: r => (insP_perm p _).trans ((sortP_perm r).cons p)
theorem insP_sorted (p : Int × Int) : ∀ l : List (Int × Int), l.Pairwise LeP → (insP p l).Pairwise LeP
  | [], _ => List.pairwise_singleton _ _
  | q :: r, h => by
    obtain ⟨h1, h2⟩ := List.pairwise_cons.mp h
    unfold insP
    split
    · rename_i c
      refine List.pairwise_cons.mpr ⟨fun x hx => ?_, insP_sorted p r h2⟩
      rcases List.mem_cons.mp ((insP_perm p r).mem_iff.mp hx) with rfl | hx
      · have := SrtO.lexB_iff.mp c
        rw [LeP.iff]
        omega
      · exact h1 x hx
    · rename_i c
      have cp : LeP p q := by
        have : SrtO.lexB q p = false := by
          cases hh : SrtO.lexB q p with
          | false => rfl
          | true => exact absurd hh c
        exact this
      refine List.pairwise_cons.mpr ⟨fun x hx => ?_, h⟩
      rcases List.mem_cons.mp hx with rfl | hx
      · exact cp
      · have := h1 x hx
        rw [LeP.iff] at *
        omega
theorem sortP_sorted : ∀ l : List (Int × Int), (sortP l).Pairwise LeP
  | [] => .nil
  | p :: r => insP_sorted p _ (sortP_sorted r)
theorem leP_uniq : ∀ {l m : List (Int × Int)}, l.Pairwise LeP → m.Pairwise LeP → l.Perm m → l = m
  | [], m, _, _, h => (List.Perm.eq_nil h.symm).symm
  | p :: l, m, hl, hm, h => by
    cases m with
    | nil => exact absurd (List.Perm.eq_nil h) (by simp)
    | cons q m =>
      obtain ⟨l1, l2⟩ := List.pairwise_cons.mp hl
      obtain ⟨m1, m2⟩ := List.pairwise_cons.mp hm
      have e : p = q := by
        rcases List.mem_cons.mp (h.mem_iff.mp List.mem_cons_self) with e | hp
        · exact e
        · rcases List.mem_cons.mp (h.mem_iff.mpr (List.mem_cons_self (a := q) (l := m))) with e | hq
          · exact e.symm
          · have a := l1 q hq
            have b := m1 p hp
            rw [LeP.iff] at a b
            exact Prod.ext (by omega) (by omega)
      subst e
      rw [leP_uniq l2 m2 h.cons_inv]
def dPl : List D → Option (List (Int × Int)) := mapO dPr
def sortPD (x : D) : M D := fun s => match seqD s x with
  | some ds => (match dPl ds with
    | some ps => .ok (.vls ((sortP ps).map pD)) s
    | none => .stuck)
  | none => .stuck
theorem dPl_rep {K : PySem.W.Frag} {μ : Mu} {H : Hp} : ∀ {ds : List D} {xs : List V} {ps : List (Int × Int)}, dPl ds = some ps → RepL K μ H xs ds → KeysAt K H xs ps
  | [], _, ps, e, .nil => by
    cases e
    exact .nil
  | d :: r, _, ps, e, .cons h t => by
    unfold dPl mapO at e
    cases q : dPr d with
    | none => rw [q] at e; cases e
    | some p =>
      rw [q] at e
      cases q2 : mapO dPr r with
      | none => rw [q2] at e; cases e
      | some ms =>
        rw [q2] at e
        cases e
        exact .cons (dPr_rep q h) (dPl_rep (ds := r) q2 t)
theorem cr_sortPD : CallR X (.builtin "sorted") (RLof X.K E (fun1 sortPD)) := CallR.imp cr_sortedPQ (rl_1 fun μ s d v H Q hs r post => by
  unfold sortPD at post
  cases e1 : seqD s d with
  | none => simp only [e1] at post; exact (show False from post).elim
  | some ds =>
    cases e2 : dPl ds with
    | none => simp only [e1, e2] at post; exact (show False from post).elim
    | some ps =>
      simp only [e1, e2] at post
      obtain ⟨l, xs, rfl, hq, hl⟩ := seqD_rep hs r e1
      refine ⟨l, xs, ps, rfl, hq, dPl_rep e2 hl, fun ys qs p hp hw hk hn => ?_⟩
      have : qs = sortP ps := leP_uniq hw (sortP_sorted ps) (hp.trans (sortP_perm ps).symm)
      subst this
      exact post_vls hs (keys_rep hk) post p hn)
end
end PL

/-! PL16: sorted of integers, of a dict's texts; all kinds in one. -/
namespace PL
open PySem PySem.Spec PyProof.Rows L2
def insI (p : Int) : List Int → List Int
  | [] => [p]
  | q :: r => if q < p then q :: insI p r else p :: q :: r
def sortI : List Int → List Int
  | [] => []
  | p :: r => insI p (sortI r)
theorem insI_perm (p : Int) : ∀ l : List Int, (insI p l).Perm (p :: l)
  | [] => List.Perm.refl _
  | q :: r => by
    unfold insI
    split
    · exact ((insI_perm p r).cons q).trans (List.Perm.swap _ _ _)
    · exact List.Perm.refl _
theorem sortI_perm : ∀ l : List Int, (sortI l).Perm l
  | [] => List.Perm.refl _
  | p :: r => (insI_perm p _).trans ((sortI_perm r).cons p)
theorem insI_sorted (p : Int) : ∀ l : List Int, l.Pairwise (· ≤ ·) → (insI p l).Pairwise (· ≤ ·)
  | [], _ => List.pairwise_singleton _ _
  | q :: r, h => by
    obtain ⟨h1, h2⟩ := List.pairwise_cons.mp h
    unfold insI
    split
    · refine List.pairwise_cons.mpr ⟨fun x hx => ?_, insI_sorted p r h2⟩
      rcases List.mem_cons.mp ((insI_perm p r).mem_iff.mp hx) with rfl | hx
      · omega
      · exact h1 x hx
    · refine List.pairwise_cons.mpr ⟨fun x hx => ?_, h⟩
      rcases List.mem_cons.mp hx with rfl | hx
      · omega
      · have := h1 x hx
        omega
theorem sortI_sorted : ∀ l : List Int, (sortI l).Pairwise (· ≤ ·)
  | [] => .nil
  | p :: r => insI_sorted p _ (sortI_sorted r)
theorem uniq_by {α : Type} {r : α → α → Prop} (anti : ∀ a b, r a b → r b a → a = b) : ∀ {l m : List α}, l.Pairwise r → m.Pairwise r → l.Perm m → l = m
  | [], m, _, _, h => (List.Perm.eq_nil h.symm).symm
  | p :: l, m, hl, hm, h => by
    cases m with
    | nil => exact absurd (List.Perm.eq_nil h) (by simp)
    | cons q m =>
      obtain ⟨l1, l2⟩ := List.pairwise_cons.mp hl
      obtain ⟨m1, m2⟩ := List.pairwise_cons.mp hm
      have e : p = q := by
        rcases List.mem_cons.mp (h.mem_iff.mp List.mem_cons_self) with e | hp
        · exact e
        · rcases List.mem_cons.mp (h.mem_iff.mpr (List.mem_cons_self (a := q) (l := m))) with e | hq
          · exact e.symm
          · exact anti p q (l1 q hq) (m1 p hp)
      subst e
      rw [uniq_by anti l2 m2 h.cons_inv]
/-! texts -/
def LeS (x y : Str) : Prop := ¬ (y.cps.toList < x.cps.toList)
theorem LeS.trans {x y z : Str} (h : LeS x y) (k : LeS y z) : LeS x z := by
  unfold LeS at *
  exact List.le_trans (l₁ := x.cps.toList) (l₂ := y.cps.toList) (l₃ := z.cps.toList) h k
theorem LeS.anti (x y : Str) (h : LeS x y) (k : LeS y x) : x = y := by
  have e : x.cps.toList = y.cps.toList := List.le_antisymm h k
  obtain ⟨⟨a⟩⟩ := x
  obtain ⟨⟨b⟩⟩ := y
  have e' : a = b := e
  rw [e']
theorem LeS.of_not {x y : Str} (h : ¬ LeS x y) : LeS y x := by
  unfold LeS at *
  intro k
  exact h fun k2 => List.lt_irrefl _ (List.lt_trans k k2)
theorem rising_pw : ∀ (p : Str) (l : List Str), risingS p l = true → (p :: l).Pairwise LeS
  | p, [], _ => List.pairwise_singleton _ _
  | p, x :: r, h => by
    unfold risingS at h
    rw [Bool.and_eq_true] at h
    have ih := rising_pw x r h.2
    have h1 : LeS p x := by
      have := h.1
      rw [ltCps_eq] at this
      unfold LeS
      simpa using this
    refine List.pairwise_cons.mpr ⟨fun y hy => ?_, ih⟩
    rcases List.mem_cons.mp hy with rfl | hy
    · exact h1
    · exact h1.trans ((List.pairwise_cons.mp ih).1 y hy)
theorem sortedS_pw : ∀ l : List Str, sortedS l = true → l.Pairwise LeS
  | [], _ => .nil
  | p :: l, h => rising_pw p l h
theorem insS_sorted (p : Str) : ∀ l : List Str, l.Pairwise LeS → (insS p l).Pairwise LeS
  | [], _ => List.pairwise_singleton _ _
  | q :: r, h => by
    obtain ⟨h1, h2⟩ := List.pairwise_cons.mp h
    unfold insS ltS
    by_cases c : q.cps.toList < p.cps.toList
    · rw [if_pos (decide_eq_true c)]
      refine List.pairwise_cons.mpr ⟨fun x hx => ?_, insS_sorted p r h2⟩
      rcases List.mem_cons.mp ((insS_perm p r).mem_iff.mp hx) with rfl | hx
      · unfold LeS
        intro k
        exact List.lt_irrefl _ (List.lt_trans c k)
      · exact h1 x hx
    · rw [if_neg (by rw [decide_eq_true_eq]; exact c)]
      refine List.pairwise_cons.mpr ⟨fun x hx => ?_, h⟩
      have c' : LeS p q := c
      rcases List.mem_cons.mp hx with rfl | hx
      · exact c'
      · exact c'.trans (h1 x hx)
theorem sortS_sorted : ∀ l : List Str, (sortS l).Pairwise LeS
  | [] => .nil
  | p :: r => insS_sorted p _ (sortS_sorted r)
def sortAnyD (x : D) : M D := fun s => match seqD s x with
  | some ds => (match dPl ds, dInts ds with
    | some ps, _ => .ok (.vls ((sortP ps).map pD)) s
    | none, some ns => .ok (.vls ((sortI ns).map D.int)) s
    | none, none => .stuck)
  | none => sortedD x s
theorem kStrs_rep {K : PySem.W.Frag} {μ : Mu} {H : Hp} : ∀ {kvs : List (Key × D)} {xs : List (Key × V)} {ks : List Str}, kStrs kvs = some ks → RepK K μ H xs kvs → xs.map (·.1) = ks.map Sum.inr
  | [], [], ks, e, _ => by
    cases e
    rfl
  | [], p :: xs, _, _, h => by have := h.1; simp at this
  | q :: kvs, [], _, _, h => by have := h.1; simp at this
  | (k, d) :: kvs, (k', v) :: xs, ks, e, ⟨h1, h2⟩ => by
    rw [List.map_cons, List.map_cons] at h1 h2
    obtain rfl : k' = k := (List.cons.inj h1).1
    cases h2 with
    | cons r t =>
      unfold kStrs mapO at e
      cases k' with
      | inl i => cases e
      | inr x =>
        cases q2 : mapO keyStr kvs with
        | none => rw [q2] at e; cases e
        | some ms =>
          rw [q2] at e
          cases e
          have := kStrs_rep (kvs := kvs) q2 ⟨(List.cons.inj h1).2, t⟩
          rw [List.map_cons, List.map_cons, this]
theorem strs_rep {K : PySem.W.Frag} {μ : Mu} {H : Hp} : ∀ ks : List Str, RepL K μ H (ks.map V.str) (ks.map D.str)
  | [] => .nil
  | x :: r => .cons (.str x) (strs_rep r)
theorem ints_rep {K : PySem.W.Frag} {μ : Mu} {H : Hp} : ∀ ks : List Int, RepL K μ H (ks.map V.int) (ks.map D.int)
  | [] => .nil
  | x :: r => .cons (.int x) (ints_rep r)
section
variable {X : Cx} {E : XK}
theorem cr_sortAny (hc : X.calm = true) : CallR X (.builtin "sorted") (RLof X.K E (fun1 sortAnyD)) := CallR.imp (CallR.or cr_sortedPQ (CallR.or cr_sortedI (call_sortedD hc))) (rl_1 fun μ s d v H Q hs r post => by
  unfold sortAnyD at post
  cases e1 : seqD s d with
  | none =>
    simp only [e1] at post
    unfold sortedD at post
    cases r with
    | @ptr a n hn =>
      simp only [] at post
      cases ec : s[n]? with
      | none => simp only [ec] at post; exact (show False from post).elim
      | some c =>
        simp only [ec] at post
        cases c with
        | dK kvs =>
          simp only [] at post
          cases ek : kStrs kvs with
          | none => simp only [ek] at post; exact (show False from post).elim
          | some ks =>
            simp only [ek] at post
            split at post
            · rename_i hz
              obtain ⟨xs, h1, h2⟩ := cell_dK hs hn ec
              refine .inr (.inr ⟨a, xs, ks, rfl, .inl h1, kStrs_rep ek h2, hz, fun ys p hp hsd hn2 => ?_⟩)
              have : ys = sortS ks := uniq_by LeS.anti (sortedS_pw ys hsd) (sortS_sorted ks) (hp.trans (sortS_perm ks).symm)
              subst this
              exact post_vls hs (strs_rep _) post p hn2
            · exact (show False from post).elim
        | lst ds => exact (show False from post).elim
        | dT kvs => exact (show False from post).elim
        | ins C fs => exact (show False from post).elim
        | fK kvs => exact (show False from post).elim
    | _ => exact (show False from post).elim
  | some ds =>
    simp only [e1] at post
    obtain ⟨l, xs, rfl, hq, hl⟩ := seqD_rep hs r e1
    cases e2 : dPl ds with
    | some ps =>
      simp only [e2] at post
      refine .inl ⟨l, xs, ps, rfl, hq, dPl_rep e2 hl, fun ys qs p hp hw hk hn => ?_⟩
      have : qs = sortP ps := leP_uniq hw (sortP_sorted ps) (hp.trans (sortP_perm ps).symm)
      subst this
      exact post_vls hs (keys_rep hk) post p hn
    | none =>
      cases e3 : dInts ds with
      | none => simp only [e2, e3] at post; exact (show False from post).elim
      | some ns =>
        simp only [e2, e3] at post
        have ex := dInts_rep e3 hl
        subst ex
        refine .inr (.inl ⟨l, ns, rfl, hq, fun ns' p hp hw hn => ?_⟩)
        have : ns' = sortI ns := uniq_by (fun a b h k => by omega) hw (sortI_sorted ns) (hp.trans (sortI_perm ns).symm)
        subst this
        exact post_vls hs (ints_rep _) post p hn)
end
end PL

/-! PL17: dict(d), a copy. -/
namespace PL
open PySem PySem.Spec PyProof.Rows L2
section
variable {X : Cx} {E : XK}
theorem cr_dictD : CallR X (.type "dict") (RLof X.K E (fun1 dictD)) := CallR.imp call_dictD (rl_1 fun μ s d v H Q hs r post => by
  unfold dictD at post
  cases r with
  | @ptr a n hn =>
    simp only [] at post
    cases ec : s[n]? with
    | none => simp only [ec] at post; exact (show False from post).elim
    | some c =>
      simp only [ec] at post
      cases c with
      | dK kvs =>
        obtain ⟨xs, h1, h2⟩ := cell_dK hs hn ec
        exact ⟨a, xs, rfl, .inl h1, fun p hp => post_dict hs h2 post p hp⟩
      | lst ds => exact (show False from post).elim
      | dT kvs => exact (show False from post).elim
      | ins C fs => exact (show False from post).elim
      | fK kvs => exact (show False from post).elim
  | _ => exact (show False from post).elim)
end
end PL

/-! PL18: defs that raise. -/
namespace PL
open PySem PySem.Spec PyProof.Rows L2
def raiseM (C : Str) (me : Env → M D) (env : Env) : M Out := me env >>= fun _ => fun s => .exc C s
/-- what an own exception class without __init__ must have -/
structure ExcC (K : PySem.W.Frag) (mg : Str → Option Value) (x : Str) (C : Addr) : Prop where
  n : ClsAt K x C
  g : mg x = some (.ref C)
  k : PySem.W.keepIn K (.ref C) = true
  q : PySem.W.excIn K C [.type "ValueError", .type "Exception", .type "BaseException", .type "object"] "ValueError.__new__" = true
  b : PySem.W.subIn K (.ref C) (.type "BaseException") = some true
  t : PySem.W.typeIn K (.ref C) = some (.type "type")
section
variable {X : Cx} {E : XK}
theorem ss_raise {x : Str} {C : Addr} {e : Expr} {me : Env → M D} {p pos pos2 : Pos} (hc : X.calm = true) (tk : Takes X (fun cls d _ H => E cls d H)) (c : ExcC X.K X.mg x C) (hg : Gl X x) (he : SE X E e me) (hs : starEach [e] X.env = (false, eval e X.env) :: starEach [] X.env := by rfl) (hdb : (x == ("__debug__" : Str)) = false := by decide) :
    SS X E (.Raise (some (.Call (.Name x p) [e] [] pos2)) none pos) (raiseM x me) := PS.imp (ps_raise hc tk (SkE.pmk_own1 PySem.F.excBase_ValueError c.q c.g c.k (raises_own c.b c.t) hg he hs hdb)) (by
  rintro Dd σ H ⟨μ, env, s, hv, hs, post⟩
  exact ⟨μ, env, s, hv, hs, (Post.bind post).mono fun d s1 μ1 H1 g1 hs1 p1 v hx => p1 C c.n μ1 H1 (Grow.refl _ _) hs1⟩)
end
section
variable {P : Program} {w : World} {K : PySem.W.Frag} {mg : Str → Option Value} {base : Heap}
/-- what raises nothing may be called where something may be raised -/
theorem fn_up {k n : Nat} {f : Addr} {fd : FuncData} {ps : List Str} {F : List D → M D} (h : FnOk P w K mg base CX0 k f fd ps (spM K n F)) : FnOk P w K mg base (L2.CX P w) k f fd ps (spM K n F) :=
  ⟨h.len, fun A outer s H args us vs Q E hr he hb hv hs => codeAny_mono (h.run A outer s H args us vs Q E hr he hb hv hs) fun r s' q => by
    cases r with
    | error e => exact False.elim q
    | ok fl => cases fl <;> exact q⟩
theorem fn_okX {x qual : Str} {st : Stmt} {f : Addr} {fd : FuncData} {N ps : List Str} {k n : Nat} {m : Env → M Out} (F : Fun K x qual st f fd) (Sc : FnScope N ps (defScope st)) (hn : ps.length = n)
    (hbody : ∀ (cdv : Value) (A : Around) (outer : List PySem.Env) (s : Shared) (H : Hp) (E : XK), Room k (A.deeper (envOfC qual (defScope st) s.heap.objs.size f cdv)) → SSs (cxOf (L2.CX P w) P w K mg base N qual (defScope st) f cdv A outer s H E) E (defBody st) m) :
    FnOk P w K mg base (L2.CX P w) (k + 1) f fd ps (spM K n (fnM N.length m)) := by
  refine F.okX Sc (fun vs H Q E h => ?_) (fun cdv A outer s H vs Q E hr h => ?_)
  · obtain ⟨μ, s, ds, hs, hl, hlen, p⟩ := h
    rw [hl.length, hlen, hn]
  · obtain ⟨μ, s0, ds, hs, hl, hlen, p⟩ := h
    refine ⟨_, hbody cdv A outer s H E hr, μ, startE N.length ds, s0, simV_start N hl, hs, (Post.bind p).mono fun o s1 μ1 H1 g1 hs1 p1 => ?_⟩
    cases o with
    | nx env => exact fun σ' _ => post_val hs1 p1 .non
    | rt d => exact fun v hr => post_val hs1 p1 hr
    | bk env => exact (show False from p1).elim
    | ct env => exact (show False from p1).elim
end
end PL

/-! PL19: classes and methods of the text. -/
namespace PL
open PySem PySem.Spec PyProof.Rows L2
section
variable {K : PySem.W.Frag} {mg : Str → Option Value}
/-- a class of the text -/
structure ClsOk (K : PySem.W.Frag) (mg : Str → Option Value) (x : Str) (cA : Addr) : Prop where
  n : ClsAt K x cA
  g : mg x = some (.ref cA)
  c : Cls K cA
structure MetOk (K : PySem.W.Frag) (cA : Addr) (x qual : Str) (st : Stmt) (ps : List Str) (f : Addr) (fd : FuncData) : Prop where
  fn : Fun K x qual st f fd
  b : Binds K fd ps []
  m : Meth K cA x f
inductive MetIn (K : PySem.W.Frag) (cA : Addr) (x qual : Str) (st : Stmt) : Prop where
  | mk {f : Addr} {od an : Option Addr} {sl : Array (Option Value)} {oc kV dc pm cd ct : Value} (a : PySem.W.findIn K (.ref cA) x = some (some (.ref f))) (i : PySem.W.isFn K (.ref f) = true)
      (l : K.lookup f = some ⟨oc, od, .func (PySem.W.fnOf x qual (defArgs st) (defBody st) (defScope st) .none kV dc pm an cd ct), sl⟩) (c : PySem.W.codeIn K cd qual = true) (k : PySem.W.keepIn K (.ref f) = true) : MetIn K cA x qual st
theorem MetIn.get {cA : Addr} {x qual : Str} {st : Stmt} (d : MetIn K cA x qual st) (ps : List Str)
    (hb : ∀ (kV doc pm : Value) (an : Option Addr) (cdv ct : Value) (us : List Value), us.length = ps.length → bindArgs (PySem.W.fnOf x qual (defArgs st) (defBody st) (defScope st) .none kV doc pm an cdv ct) ⟨us, []⟩ = pure (ps.zip us)) :
    ∃ f fd, MetOk K cA x qual st ps f fd := by
  obtain ⟨a, i, l, c, k⟩ := d
  have F := fun_mk (st := st) l c k
  exact ⟨_, _, ⟨F, F.binds hb, ⟨a, i, k⟩⟩⟩
inductive ClsIn (K : PySem.W.Frag) (x : Str) (cA : Addr) : Prop where
  | mk (n : PySem.W.nsIn K mainGlobals x = some (some (.ref cA))) (pg : PySem.W.plainGet K cA Str.empty = true) (hd : PySem.W.hasDictIn K cA = true) (po : PySem.W.plainOver K cA = true) (sa : PySem.W.findIn K (.ref cA) "__setattr__" = some (some (.builtin "object.__setattr__"))) : ClsIn K x cA
theorem ClsIn.get {x : Str} {cA : Addr} {h : Heap} (d : ClsIn K x cA) (X : K.In h) (G : h.Ns mainGlobals mg) : ClsOk K mg x cA := by
  obtain ⟨n, pg, hd, po, sa⟩ := d
  exact ⟨n, PySem.W.mg_of X G n, pg, hd, po, sa⟩
theorem mk_of_met {cA : Addr} {qual : Str} {st : Stmt} {ps : List Str} {f : Addr} {fd : FuncData} (d : MetOk K cA "__init__" qual st ps f fd) (h : PySem.W.makesIn K cA = true) (k : PySem.W.keepIn K (.ref cA) = true) : Mk K cA f := ⟨h, d.m.at_, d.m.fn, k⟩
def clsBody : Stmt → List Stmt
  | .ClassDef _ _ _ body .. => body
  | _ => []
end
end PL

/-! PL20: sorted(set(xs)) of a list of pairs of integers. -/
namespace PL
open PySem PySem.Spec PyProof.Rows L2
section
variable {X : Cx}
def pair2 (l : List Int) : Int × Int := (l.getD 0 0, l.getD 1 0)
theorem len2 {l : List Int} (h : l.length = 2) : l = [(pair2 l).1, (pair2 l).2] := by
  cases l with
  | nil => cases h
  | cons a l =>
    cases l with
    | nil => cases h
    | cons b l =>
      cases l with
      | nil => rfl
      | cons c l => simp at h
theorem tupInts_pair {h : Heap} {b : Addr} {k : List Int} {P : Program} {w : World} (x : L2.IsT P w h k b) (h2 : k.length = 2) : Srt.IsPair h (.ref b) (pair2 k).1 (pair2 k).2 := by
  rw [len2 h2] at x
  obtain ⟨a, xs, e, ht, hi⟩ := tupInts_of x
  cases e
  obtain ⟨o, ho, hc, n, hd⟩ := ht
  obtain ⟨l⟩ := xs
  have hi' : PyProof.Rows.IntsAre l [(pair2 k).1, (pair2 k).2] := hi
  cases hi' with
  | cons _ t1 r1 =>
    cases r1 with
    | cons _ t2 r2 =>
      cases r2
      exact ⟨b, o, t1, t2, n, rfl, ho, hc, hd⟩
/-- sorted(s), a set of pairs of integers -/
theorem sorted_setPr {P : Program} {w : World} {A : Around} {E : Value → Shared → Prop} {s : Shared} {a : Addr} {L : List (Addr × List Int)} {es : Array (Int × Value)} {ep : Nat} {t : SetTable} {Q : Value → Shared → Prop}
    (R : SetTR P w s.heap a L es ep t) (hh : A.handled = none) (h2 : ∀ p ∈ L, p.2.length = 2)
    (h : ∀ (s' : Shared) (p : Nat) (out : List Value) (c : Nat), (∀ (b : Addr) (o : Obj), s.heap.get? b = some o → s'.heap.get? b = some o) → s'.gens = s.gens → s'.os = s.os → s.heap.objs.size ≤ p → s'.heap.get? p = some (seqObj "list" out.toArray c) →
      out.Perm (L.map fun q => Value.ref q.1) → SrtO.Srtd (fun v u => SrtO.lexB (kOf s.heap v) (kOf s.heap u)) out → Q (.ref p) s') :
    wpAny (model P w) A (call (.builtin "sorted") [.ref a]) Q E s := by
  obtain ⟨o, ho, hex, hd⟩ := R.ob
  have hsz := R.size
  have hfew := R.few
  refine Calls.call_function_entry PyProof.Rows.kind_sorted PyProof.Rows.plain_sorted PyProof.Rows.entry_sorted (PyProof.Rows.args_sorted1 _) ?_
  unfold Builtin.«sorted»
  refine wpAny_bind (m := checkCount "sorted" 1 1 _) (wpAny_pure ?_)
  refine wpAny_bind (collect_set hh ⟨o, ho, hex.1, hd⟩ R.fits (Nat.lt_of_lt_of_le (by omega : es.size < 64) (by decide)) R.tab.ris R.led fun s1 vs k1 hz g1 o1 pm => ?_)
  have hes : es.toList.map (fun x => x.2) = L.map fun q => Value.ref q.1 := by
    rw [R.rows]
    unfold rowsOf
    rw [List.map_map]
    rfl
  rw [hes] at pm
  have hal : vs.length ≤ sizeLine := by
    rw [pm.length_eq, List.length_map]
    exact Nat.le_trans (Nat.le_of_lt hfew) (by decide)
  have hp : ∀ v ∈ vs, Srt.IsPair s.heap v (kOf s.heap v).1 (kOf s.heap v).2 := fun v hv => by
    obtain ⟨q, hq, e⟩ := List.mem_map.mp (pm.mem_iff.mp hv)
    have pr := tupInts_pair (R.tup q hq) (h2 q hq)
    rw [← e, kOf_pair pr]
    exact pr
  refine wpAny_bind (wpAny_newList ?_ hal)
  have hoL : (s1.heap.push (seqObj "list" vs.toArray 0)).get? s1.heap.objs.size = some (seqObj "list" vs.toArray 0) := Heap.get?_push_size _ rfl
  show wpAny _ _ _ _ _ { s1 with heap := s1.heap.push (seqObj "list" vs.toArray 0) }
  have keep : ∀ b o, s.heap.get? b = some o → (s1.heap.push (seqObj "list" vs.toArray 0)).get? b = some o := fun b o e => Heap.get?_push_of_some _ (k1 b o e)
  refine wpAny_bind (wpAny_holding (wpAny_call_entry PyProof.Rows.slot_list_sort ⟨_, hoL, rfl⟩ PyProof.Rows.entry_list_sort
    (SrtO.list_sort_ord (s := { s1 with heap := s1.heap.push (seqObj "list" vs.toArray 0) }) (SrtO.swo_lex (kOf s.heap)) hoL hal (fun hl2 => ?_) fun out hs hb => ⟨_, rfl, ?_⟩) (PyProof.Rows.args_list_sort _)))
  · refine SrtO.pairs_sortableO (s := { s1 with heap := s1.heap.push (seqObj "list" vs.toArray 0) }) (by omega) (fun v hm => (hp v hm).keeps fun b o e _ => keep b o e) fun o e => ?_
    have e' : some o = some (seqObj "list" vs.toArray 0) := e.symm.trans hoL
    cases e'
    intro c
    exact absurd (Value.type.inj c) (by decide)
  · obtain ⟨e2, he2⟩ := PyProof.Rows.sortedHeap_at (vs := vs) (out := out.toArray) hoL
    refine wpAny_pure ⟨_, rfl, h _ _ out e2 (fun b o e => ?_) g1 o1 hz he2 (hb.perm.trans pm) hs⟩
    have hb : b < s1.heap.objs.size := Heap.lt_size (k1 b o e)
    rw [PyProof.Rows.sortedHeap_old (Nat.ne_of_lt hb) (by rw [size_push']; exact Nat.lt_succ_of_lt hb)]
    exact keep b o e
def rSortSetPr (K : PySem.W.Frag) (P : Program) (w : World) : List V → Hp → VK → Prop := fun vs H Q => ∃ (a : Addr) (L : List (Addr × List Int)), vs = [V.ref a] ∧ H a = some (SetTO P w a L) ∧ (∀ p ∈ L, SqT K H p.1 (p.2.map V.int)) ∧ (∀ p ∈ L, p.2.length = 2) ∧
  ∀ ys p, KeysAt K H ys (sortU (L.map fun q => pair2 q.2)) → H p = none → Q (.ref p) (upd H p (.lst ys))
theorem cr_sortedSetPr (hc : X.calm = true) : CallR X (.builtin "sorted") (rSortSetPr X.K X.prog X.w) := by
  intro pins s σ H vs us Q I r h
  obtain ⟨a, L, rfl, ha, hk, h2, q⟩ := h
  obtain ⟨u, rfl, ru⟩ := vals1 r
  obtain rfl : u = Value.ref a := ru
  have R0 : SetT0 X.prog X.w s.heap a L := (I.hok a _ ha).1
  obtain ⟨es, ep, t, R⟩ := R0.full fun p hp => I.isT (hk p hp)
  refine sorted_setPr R (I.ok.hd hc) h2 fun s' d out c kp hg ho hd hn pm sr => ?_
  have hm : ∀ v ∈ out, ∃ q ∈ L, v = .ref q.1 ∧ kOf s.heap v = pair2 q.2 := fun v hv => by
    obtain ⟨q, hq, e⟩ := List.mem_map.mp (pm.mem_iff.mp hv)
    exact ⟨q, hq, e.symm, by rw [← e]; exact kOf_pair (tupInts_pair (R.tup q hq) (h2 q hq))⟩
  have hkeys : KeysAt X.K H (out.map bkV) (out.map (kOf s.heap)) := by
    clear pm sr hn
    induction out with
    | nil => exact .nil
    | cons v out ih =>
      obtain ⟨q, hq, eb, e2⟩ := hm v List.mem_cons_self
      refine .cons ⟨q.1, by rw [eb]; rfl, ?_⟩ (ih fun u hu => hm u (List.mem_cons_of_mem _ hu))
      have := hk q hq
      rw [len2 (h2 q hq)] at this
      rw [e2]
      exact this
  have hsorted : out.map (kOf s.heap) = sortU (L.map fun q => pair2 q.2) := by
    refine lx_uniq ?_ (sortU_sorted _) fun z => ?_
    · have nd : (out.map (kOf s.heap)).Nodup := by
        refine (pm.map (kOf s.heap)).nodup_iff.mpr ?_
        rw [List.map_map]
        refine List.pairwise_map.mpr ?_
        have nd1 : L.Pairwise fun x y => x.2 ≠ y.2 := List.pairwise_map.mp R.nd
        refine List.Pairwise.imp_of_mem (fun {x y} hx hy hne e => hne ?_) nd1
        have e' : kOf s.heap (.ref x.1) = kOf s.heap (.ref y.1) := e
        rw [kOf_pair (tupInts_pair (R.tup x hx) (h2 x hx)), kOf_pair (tupInts_pair (R.tup y hy) (h2 y hy))] at e'
        rw [len2 (h2 x hx), len2 (h2 y hy)]
        have e2 : pair2 x.2 = pair2 y.2 := Prod.ext (congrArg Prod.fst e') (congrArg Prod.snd e')
        rw [e2]
      have sr2 : (out.map (kOf s.heap)).Pairwise fun x y => SrtO.lexB y x = false := by
        refine List.pairwise_map.mpr ?_
        exact sr
      have both := nd.and sr2
      refine List.Pairwise.imp (fun {x y} hxy => ?_) both
      refine Lx.tri y x (fun c => ?_) (Ne.symm hxy.1)
      have := hxy.2
      rw [show SrtO.lexB y x = true from c] at this
      cases this
    · rw [sortU_mem]
      constructor
      · intro hz
        obtain ⟨v, hv, rfl⟩ := List.mem_map.mp hz
        obtain ⟨q, hq, _, e2⟩ := hm v hv
        rw [e2]
        exact List.mem_map.mpr ⟨q, hq, rfl⟩
      · intro hz
        obtain ⟨q, hq, rfl⟩ := List.mem_map.mp hz
        exact List.mem_map.mpr ⟨.ref q.1, pm.mem_iff.mpr (List.mem_map.mpr ⟨q, hq, rfl⟩), kOf_pair (tupInts_pair (R.tup q hq) (h2 q hq))⟩
  have h3 : ∀ u ∈ out, ∃ a, u = Value.ref a := fun u hu => by
    obtain ⟨q, _, e, _⟩ := hm u hu
    exact ⟨_, e⟩
  have hlo : (out.map bkV).length ≤ sizeLine := by
    rw [List.length_map, pm.length_eq, List.length_map]
    exact Nat.le_trans (Nat.le_of_lt R.few) (by decide)
  refine ⟨.ref d, upd H d (.lst (out.map bkV)), ?_, rfl, q _ _ ?_ (I.hok.fresh hd)⟩
  · have J := I.laid (t' := s'.toks) kp hd (o := .lst (out.map bkV)) ⟨hlo, out, c, bkV_vals h3, hn⟩
    exact ⟨J.ok, ho.trans I.os, by rw [hg]; exact I.bare, J.base, J.loc, J.cell, J.free, J.freeC, J.pin, J.hok, J.len⟩
  · rw [← hsorted]
    exact hkeys
end
def ssetD (x : D) : M D := fun s => match seqD s x with
  | some ds => (match dPl ds with
    | some ps => if ps.length < 64 then .ok (.vls ((sortU ps).map pD)) s else .stuck
    | none => .stuck)
  | none => .stuck
section
variable {X : Cx} {E : XK} {a : Expr} {ma : Env → M D} {pos p p2 q : Pos}
/-- the addresses and the items of a list of pairs -/
def addrOf (v : V) : Addr := match v with
  | .ref b => b
  | _ => 0
theorem keys_addr {K : PySem.W.Frag} {H : Hp} : ∀ {xs : List V} {ps : List (Int × Int)}, KeysAt K H xs ps → ∃ ks : List (Addr × List Int), xs = ks.map (fun p => V.ref p.1) ∧ (∀ p ∈ ks, SqT K H p.1 (p.2.map V.int)) ∧ (∀ p ∈ ks, p.2.length = 2) ∧ ks.map (fun p => pair2 p.2) = ps
  | _, _, .nil => ⟨[], rfl, (fun _ h => nomatch h), (fun _ h => nomatch h), rfl⟩
  | _, _, @Paired.cons _ _ _ x z xs ps ⟨b, e, hb⟩ t => by
    obtain ⟨ks, h1, h2, h3, h4⟩ := keys_addr t
    refine ⟨(b, [z.1, z.2]) :: ks, by rw [List.map_cons, ← h1, e], fun p hp => ?_, fun p hp => ?_, by rw [List.map_cons, h4]; rfl⟩
    · rcases List.mem_cons.mp hp with rfl | hp
      · exact hb
      · exact h2 p hp
    · rcases List.mem_cons.mp hp with rfl | hp
      · rfl
      · exact h3 p hp
theorem se_sset (hc : X.calm = true) (hu : X.A.units + 65 < cLine) (ha : SE X E a ma) (hg : Gl X "sorted") (hm : X.mg "sorted" = none) (hg2 : Gl X "set") (hm2 : X.mg "set" = none) (hbs : bootBuiltins "sorted" = some (.builtin "sorted") := by decide +kernel) (hbd : bootBuiltins "set" = some (.type "set") := by decide +kernel)
    (na : starEach [a] X.env = (false, eval a X.env) :: starEach [] X.env := by rfl) (nb : starEach [.Call (.Name "set" p2) [a] [] q] X.env = (false, eval (.Call (.Name "set" p2) [a] [] q) X.env) :: starEach [] X.env := by rfl) : SE X E (.Call (.Name "sorted" p) [.Call (.Name "set" p2) [a] [] q] [] pos) (unM ssetD ma) := by
  refine PE.imp (pe_callB (cr_sortedSetPr hc) hg hm hbs (pa_cons (pe_callTy (cr_setOfT hc (by omega)) hg2 hm2 hbd (pa_cons ha pa_nil na) (by decide) (by decide) na rfl) pa_nil nb) (by decide) (by decide) nb rfl) ?_
  rintro σ H Q ⟨μ, env, s, hv, hs, post⟩
  refine ⟨μ, env, s, hv, hs, (Post.bind post).mono fun x s1 μ1 H1 g1 hs1 p1 v hx => ?_⟩
  unfold ssetD at p1
  cases e1 : seqD s1 x with
  | none => simp only [e1] at p1; exact (show False from p1).elim
  | some ds =>
    cases e2 : dPl ds with
    | none => simp only [e1, e2] at p1; exact (show False from p1).elim
    | some ps =>
      simp only [e1, e2] at p1
      split at p1
      · rename_i hz
        obtain ⟨l, xs, rfl, hq, hl⟩ := seqD_rep hs1 hx e1
        obtain ⟨ks, k1, k2, k3, k4⟩ := keys_addr (dPl_rep e2 hl)
        rw [k1] at hq
        refine ⟨l, ks, rfl, hq, k2, by rw [← k4, List.length_map] at hz; exact hz, fun b L hb hL1 hL2 => ?_⟩
        have g2 : Grow μ1 H1 μ1 (upd H1 b (SetTO X.prog X.w b L)) := grow_new hb
        refine ⟨b, L, rfl, upd_same, fun p hp => g2.sqT (k2 p (hL1 p hp)), fun p hp => k3 p (hL1 p hp), fun ys d hk hd => ?_⟩
        have e3 : sortU (L.map fun q => pair2 q.2) = sortU ps := by
          refine lx_uniq (sortU_sorted _) (sortU_sorted _) fun z => ?_
          rw [sortU_mem, sortU_mem, ← k4]
          constructor
          · intro hz
            obtain ⟨q, hq, rfl⟩ := List.mem_map.mp hz
            exact List.mem_map.mpr ⟨q, hL1 q hq, rfl⟩
          · intro hz
            obtain ⟨q, hq, rfl⟩ := List.mem_map.mp hz
            obtain ⟨r, hr, er⟩ := List.mem_map.mp (hL2 q hq)
            exact List.mem_map.mpr ⟨r, hr, by rw [er]⟩
        rw [e3] at hk
        exact post_vls (hs1.lay hb) (keys_rep hk) (Post.later g2 p1) d hd
      · exact (show False from p1).elim
end
end PL

/-! PL21: min(xs), max(xs) of a list of integers, min of a list of pairs. -/
namespace PL
open PySem PySem.Spec PyProof.Rows L2
def minP (b : Int × Int) : List (Int × Int) → Int × Int
  | [] => b
  | p :: r => minP (if SrtO.lexB p b = true then p else b) r
theorem lexLt_pair (p q : Int × Int) : HT.lexLt [p.1, p.2] [q.1, q.2] = SrtO.lexB p q := by
  unfold SrtO.lexB
  simp only [HT.lexLt]
  by_cases h : p.1 = q.1
  · simp [h]
    by_cases k : p.2 = q.2
    · simp [k]
    · simp [k]
  · simp [h]
section
variable {prog : Program} {w : World} {A : Around} {E : Value → Shared → Prop}
def IsPr (T : Value → Int × Int → Prop) (h : Heap) (v : Value) (p : Int × Int) : Prop := T v p ∧ ∃ a xs, v = .ref a ∧ IsTup h a xs ∧ PyProof.Rows.IntsAre xs.toList [p.1, p.2]
theorem IsPr.keep {T : Value → Int × Int → Prop} {h h' : Heap} {v : Value} {p : Int × Int} (x : IsPr T h v p) (k : ∀ b o, h.get? b = some o → o.cls = .type "tuple" → h'.get? b = some o) : IsPr T h' v p := by
  obtain ⟨tv, a, xs, e, ⟨o, ho, hc, r⟩, hi⟩ := x
  exact ⟨tv, a, xs, e, ⟨o, k a o ho hc, hc, r⟩, hi⟩
theorem lt_pr {T : Value → Int × Int → Prop} {s : Shared} {v u : Value} {p q : Int × Int} {Q : Value → Shared → Prop} (hv : IsPr T s.heap v p) (hu : IsPr T s.heap u q) (hA : A.units < cLine) (h : Q (.bool (SrtO.lexB p q)) s) : wpAny (model prog w) A (richCompare .Lt v u) Q E s := by
  obtain ⟨_, a, xs, rfl, t1, i1⟩ := hv
  obtain ⟨_, b, ys, rfl, t2, i2⟩ := hu
  exact HT.lt_tupInts t1 t2 i1 i2 hA (by rw [lexLt_pair]; exact h)
theorem tup_ne {h : Heap} {S : Addr} {o' : Obj} (hS : h.get? S = some o') (hc : o'.cls = .type "list") {b : Addr} {o : Obj} (e : h.get? b = some o) (c : o.cls = .type "tuple") : b ≠ S := fun z => by
  subst z
  rw [e] at hS
  cases hS
  rw [c] at hc
  exact absurd (Value.type.inj hc) (by decide)
theorem min_loopP {T : Value → Int × Int → Prop} {R : Result → Shared → Prop} {S I l : Addr} {items : Array Value} (hu : A.units + 2 < cLine) (hh : A.handled = none) (hlI : l ≠ I) (hSI : S ≠ I) (hSl : S ≠ l) :
    ∀ (rest : List (Int × Int)) (i : Nat) (s : Shared) (vb : Value) (b : Int × Int) (c : Nat), items.size = i + rest.length →
      (∀ (j : Nat) (q : Int × Int), rest[j]? = some q → ∃ v, items[i + j]? = some v ∧ IsPr T s.heap v q) →
      s.heap.IsListIter I l i → s.heap.IsList l items → IsPr T s.heap vb b → s.heap.get? S = some { cls := .type "list", data := .seq #[vb, vb] c } →
      (∀ v h' tk, IsPr T h' v (minP b rest) → (∀ b o, b ≠ S → b ≠ I → s.heap.get? b = some o → h'.get? b = some o) → R (.ok (.ret v)) { s with heap := h', toks := tk }) →
      codeAny (model prog w) A (.builtin "min.loop" ⟨[.ref I, .none, .ref S], []⟩) R s
  | [], i, s, vb, b, c, hsz, ht, hit, hl, hb, hS, hR => by
    refine codeAny_builtin F.entry_min_loop ?_
    rw [Around.under_plainId F.plain_min_loop _]
    refine wpAny_bind (wpAny_seqItems hS rfl ?_)
    refine wpAny_bind (wpAny_tryCatch ?_)
    refine wpAny_pyNext_list_end (A := A.in1) hh hit hl (by first | exact Array.getElem?_eq_none (Nat.le_of_eq hsz) | (simp at hsz; simp; omega)) fun h' he => ?_
    have hS' := he S _ hSI hS
    show wpAny _ A.in1 (updateSeq S (fun _ => #[]) >>= _) _ _ _
    refine wpAny_bind (wpAny_updateSeq hS' rfl ?_)
    refine wpAny_bind (wpAny_letGo ?_)
    refine wpAny_pure ?_
    have k2 : ∀ b o, b ≠ S → b ≠ I → s.heap.get? b = some o → (h'.update S (Obj.mapSeq fun _ => #[])).get? b = some o := fun b o h1 h2 e => by
      rw [Heap.get?_update_ne h' b S _ h1]
      exact he b o h2 e
    exact hR vb _ s.toks (hb.keep fun b o e c => k2 b o (tup_ne hS rfl e c) (ne_iter hit e c) e) k2
  | q :: rest, i, s, vb, b, c, hsz, ht, hit, hl, hb, hS, hR => by
    obtain ⟨v, hv, hq⟩ := ht 0 q rfl
    rw [List.length_cons] at hsz
    refine codeAny_builtin F.entry_min_loop ?_
    rw [Around.under_plainId F.plain_min_loop _]
    refine wpAny_bind (wpAny_seqItems hS rfl ?_)
    refine wpAny_bind (wpAny_tryCatch ?_)
    refine wpAny_pyNext_list_item (x := v) hit hl (by simpa using hv) fun h1 hit1 hs1 => ?_
    have hS1 := hs1.extBut S _ hSI hS
    have up1 : ∀ b o, s.heap.get? b = some o → o.cls = .type "tuple" → h1.get? b = some o := fun b o e c => hs1.extBut b o (ne_iter hit e c) e
    have hq1 := hq.keep up1
    have hb1 := hb.keep up1
    have hl1 : h1.IsList l items := hl.extBut hs1.extBut hlI
    refine wpAny_bind (wpAny_pure ?_)
    show wpAny _ A.in1 (tryCatch (holding [v, v] (do
                let answer ← richCompare CmpOp.Lt v vb
                let yes ← holding [answer] (truthy answer)
                letGo [answer]
                pure yes)) _ >>= _) _ _ _
    refine wpAny_bind (wpAny_tryCatch (wpAny_holding (wpAny_bind (lt_pr hq1 hb1 (show A.in1.units < cLine by
      have : A.in1.units = A.units + 1 := rfl
      omega) ?_))))
    refine wpAny_bind (wpAny_holding (wpAny_truthy_bool ?_))
    refine wpAny_bind (wpAny_letGo (wpAny_pure ?_))
    have next : ∀ (h2 : Heap) (vb' : Value) (b' : Int × Int) (c' : Nat), b' = (if SrtO.lexB q b = true then q else b) → IsPr T h2 vb' b' → (∀ b o, b ≠ S → h1.get? b = some o → h2.get? b = some o) → h2.get? S = some { cls := .type "list", data := .seq #[vb', vb'] c' } →
        codeAny (model prog w) A (.builtin "min.loop" ⟨[.ref I, .none, .ref S], []⟩) R { s with heap := h2 } := fun h2 vb' b' c' eb hb' k2 hS2 => by
      refine min_loopP (T := T) (items := items) hu hh hlI hSI hSl rest (i + 1) { s with heap := h2 } vb' b' c' (by omega) (fun j q' e => ?_) (hit1.at fun o' e => k2 I o' (Ne.symm hSI) e) ?_ hb' hS2 fun v h' tk hv k => ?_
      · obtain ⟨v', hv', hq'⟩ := ht (j + 1) q' (by simpa using e)
        refine ⟨v', by rw [show i + 1 + j = i + (j + 1) by omega]; exact hv', (hq'.keep up1).keep fun b o e c => k2 b o (tup_ne hS1 rfl e c) e⟩
      · exact hl1.extBut (fun b o n e => k2 b o n e) (Ne.symm hSl)
      · exact hR v h' tk (by rw [eb] at hv; exact hv) fun b o n1 n2 e => k b o n1 n2 (k2 b o n1 (hs1.extBut b o n2 e))
    by_cases hlt : SrtO.lexB q b = true
    · rw [hlt]
      show wpAny _ A.in1 (updateSeq S (fun _ => #[v, v]) >>= _) _ _ _
      refine wpAny_bind (wpAny_updateSeq hS1 rfl ?_)
      refine wpAny_bind (wpAny_letGo ?_)
      refine wpAny_pure ⟨plainId_quiet F.plain_min_loop _, ?_⟩
      have k2 : ∀ b o, b ≠ S → h1.get? b = some o → (h1.update S (Obj.mapSeq fun _ => #[v, v])).get? b = some o := fun b o n e => by
        rw [Heap.get?_update_ne h1 b S _ n]
        exact e
      refine next _ v q c (by rw [if_pos hlt]) (hq1.keep fun b o e c => k2 b o (tup_ne hS1 rfl e c) e) k2 ?_
      · exact Heap.get?_update_self _ hS1 rfl
    · have hf : SrtO.lexB q b = false := by
        cases e : SrtO.lexB q b with
        | true => exact absurd e hlt
        | false => rfl
      rw [hf]
      show wpAny _ A.in1 (letGo [v, v] >>= _) _ _ _
      refine wpAny_bind (wpAny_letGo ?_)
      refine wpAny_pure ⟨plainId_quiet F.plain_min_loop _, ?_⟩
      exact next h1 vb b c (by rw [if_neg hlt]) hb1 (fun b o _ e => e) hS1
theorem min_firstP {T : Value → Int × Int → Prop} {R : Result → Shared → Prop} {S I l : Addr} {items : Array Value} {s : Shared} {p0 : Int × Int} {ps : List (Int × Int)} {c : Nat} (hu : A.units + 2 < cLine) (hh : A.handled = none) (hlI : l ≠ I) (hSI : S ≠ I) (hSl : S ≠ l) (hsz : items.size = (p0 :: ps).length)
    (ht : ∀ (j : Nat) (q : Int × Int), (p0 :: ps)[j]? = some q → ∃ v, items[j]? = some v ∧ IsPr T s.heap v q) (hit : s.heap.IsListIter I l 0) (hl : s.heap.IsList l items) (hS : s.heap.get? S = some { cls := .type "list", data := .seq #[] c })
    (hR : ∀ v h' tk, IsPr T h' v (minP p0 ps) → (∀ b o, b ≠ S → b ≠ I → s.heap.get? b = some o → h'.get? b = some o) → R (.ok (.ret v)) { s with heap := h', toks := tk }) :
    codeAny (model prog w) A (.builtin "min.loop" ⟨[.ref I, .none, .ref S], []⟩) R s := by
  obtain ⟨v, hv, hq⟩ := ht 0 p0 rfl
  rw [List.length_cons] at hsz
  refine codeAny_builtin F.entry_min_loop ?_
  rw [Around.under_plainId F.plain_min_loop _]
  refine wpAny_bind (wpAny_seqItems hS rfl ?_)
  refine wpAny_bind (wpAny_tryCatch ?_)
  refine wpAny_pyNext_list_item (x := v) hit hl (by simpa using hv) fun h1 hit1 hs1 => ?_
  have hS1 := hs1.extBut S _ hSI hS
  have up1 : ∀ b o, s.heap.get? b = some o → o.cls = .type "tuple" → h1.get? b = some o := fun b o e c => hs1.extBut b o (ne_iter hit e c) e
  have hl1 : h1.IsList l items := hl.extBut hs1.extBut hlI
  refine wpAny_bind (wpAny_pure ?_)
  show wpAny _ A.in1 (updateSeq S (fun _ => #[v, v]) >>= _) _ _ _
  refine wpAny_bind (wpAny_updateSeq hS1 rfl ?_)
  refine wpAny_pure ⟨plainId_quiet F.plain_min_loop _, ?_⟩
  have k2 : ∀ b o, b ≠ S → h1.get? b = some o → (h1.update S (Obj.mapSeq fun _ => #[v, v])).get? b = some o := fun b o n e => by
    rw [Heap.get?_update_ne h1 b S _ n]
    exact e
  refine min_loopP (T := T) (items := items) hu hh hlI hSI hSl ps 1 { s with heap := h1.update S (Obj.mapSeq fun _ => #[v, v]) } v p0 (c + 1) (by omega) (fun j q' e => ?_) (hit1.at fun o' e => k2 I o' (Ne.symm hSI) e) ?_ ?_ ?_ fun v h' tk hv k => ?_
  · obtain ⟨v', hv', hq'⟩ := ht (j + 1) q' (by simpa using e)
    exact ⟨v', by rw [Nat.add_comm]; exact hv', (hq'.keep up1).keep fun b o e c => k2 b o (tup_ne hS1 rfl e c) e⟩
  · exact hl1.extBut (fun b o n e => k2 b o n e) (Ne.symm hSl)
  · exact (hq.keep up1).keep fun b o e c => k2 b o (tup_ne hS1 rfl e c) e
  · exact Heap.get?_update_self (Obj.mapSeq fun _ => #[v, v]) hS1 rfl
  · exact hR v h' tk hv fun b o n1 n2 e => k b o n1 n2 (k2 b o n1 (hs1.extBut b o n2 e))
/-- min(l), a list of pairs -/
theorem call_min_prs {T : Value → Int × Int → Prop} {s : Shared} {l : Addr} {items : Array Value} {p0 : Int × Int} {ps : List (Int × Int)} {Q : Value → Shared → Prop} (hu : A.units + 2 < cLine) (hh : A.handled = none) (hl : s.heap.IsList l items) (hsz : items.size = (p0 :: ps).length)
    (ht : ∀ (j : Nat) (q : Int × Int), (p0 :: ps)[j]? = some q → ∃ v, items[j]? = some v ∧ IsPr T s.heap v q)
    (h : ∀ v h' tk, IsPr T h' v (minP p0 ps) → (∀ b o, s.heap.get? b = some o → h'.get? b = some o) → Q v { s with heap := h', toks := tk }) :
    wpAny (model prog w) A (call (.builtin "min") [.ref l]) Q E s := by
  refine call_function_tree F.kind_min F.plain_min F.entry_min (F.args_min1 _) ?_
  refine wpAny_bind (wpAny_of_eq rfl (wpAny_bind (wpAny_pure (wpAny_bind ?_))))
  refine wpAny_pyIter_list hl ?_
  have hlt : l < s.heap.objs.size := by
    obtain ⟨o, e, _⟩ := hl
    exact Heap.lt_size e
  have k1 : ∀ b o, s.heap.get? b = some o → (s.heap.push { cls := Value.type "list_iterator", data := Data.fields #[Value.ref l, Value.int 0 0] }).get? b = some o := fun b o e => Heap.get?_push_of_some _ e
  have hI : (s.heap.push { cls := Value.type "list_iterator", data := Data.fields #[Value.ref l, Value.int 0 0] }).IsListIter s.heap.objs.size l 0 := ⟨_, Heap.get?_push_size s.heap rfl, rfl, rfl⟩
  have hl1 := hl.push { cls := Value.type "list_iterator", data := Data.fields #[Value.ref l, Value.int 0 0] }
  have hsz1 : (s.heap.push { cls := Value.type "list_iterator", data := Data.fields #[Value.ref l, Value.int 0 0] }).objs.size = s.heap.objs.size + 1 := size_push' _ _
  obtain ⟨I, eI⟩ : ∃ I, I = s.heap.objs.size := ⟨_, rfl⟩
  obtain ⟨H1, e1⟩ : ∃ H1, H1 = s.heap.push { cls := Value.type "list_iterator", data := Data.fields #[Value.ref l, Value.int 0 0] } := ⟨_, rfl⟩
  rw [← e1, ← eI] at hI
  rw [← e1] at hl1 hsz1 k1
  rw [← eI] at hsz1
  rw [← e1, ← eI]
  refine wpAny_bind (wpAny_newObj_type ?_)
  refine wpAny_pure ⟨plainId_quiet F.plain_min_loop _, ?_⟩
  have k2 : ∀ b o, H1.get? b = some o → (H1.push { cls := Value.type "list", data := Data.seq #[] }).get? b = some o := fun b o e => Heap.get?_push_of_some _ e
  have nlI : l ≠ I := by rw [eI]; exact Nat.ne_of_lt hlt
  have nSI : H1.objs.size ≠ I := by rw [hsz1]; exact Nat.succ_ne_self _
  have nlt : ∀ b, b < s.heap.objs.size → b ≠ H1.objs.size ∧ b ≠ I := fun b hb => by
    rw [← eI] at hb
    exact ⟨by rw [hsz1]; exact Nat.ne_of_lt (Nat.lt_succ_of_lt hb), Nat.ne_of_lt hb⟩
  refine min_firstP (T := T) (items := items) (c := 0) hu hh nlI nSI (Ne.symm (nlt l hlt).1) hsz (fun j q e => ?_) (hI.at fun o' e => k2 I o' e) (hl1.push _) (Heap.get?_push_size H1 rfl) fun v h' tk hv k => ?_
  · obtain ⟨v, h1, h2⟩ := ht j q e
    exact ⟨v, h1, h2.keep fun b o e _ => k2 b o (k1 b o e)⟩
  · refine h v h' tk hv fun b o e => ?_
    have hb : b < s.heap.objs.size := Heap.lt_size e
    exact k b o (nlt b hb).1 (nlt b hb).2 (k2 b o (k1 b o e))
end
section
variable {X : Cx} {E : XK}
def rMinPr (K : PySem.W.Frag) : List V → Hp → VK → Prop := fun vs H Q => ∃ (a : Addr) (xs : List V) (p0 : Int × Int) (ps : List (Int × Int)), vs = [V.ref a] ∧ SqL K H a xs ∧ KeysAt K H xs (p0 :: ps) ∧ ∀ b, SqT K H b [.int (minP p0 ps).1, .int (minP p0 ps).2] → Q (.ref b) H
theorem keys_prs {pins : List (Addr × Obj)} {σ : L2.St} {H : Hp} {s : Shared} (I : Inv X pins σ H s) : ∀ {xs : List V} {us : List Value} {ps : List (Int × Int)}, KeysAt X.K H xs ps → Vals xs us → us.length = ps.length ∧
    ∀ (j : Nat) (q : Int × Int), ps[j]? = some q → ∃ v, us[j]? = some v ∧ IsPr (fun v p => ∃ b, v = .ref b ∧ SqT X.K H b [.int p.1, .int p.2]) s.heap v q
  | _, _, _, .nil, .nil => ⟨rfl, fun j q e => by simp at e⟩
  | _ :: _, u :: us, q :: ps, .cons h t, .cons r rt => by
    obtain ⟨h1, h2⟩ := keys_prs I t rt
    obtain ⟨b, rfl, hb⟩ := h
    obtain rfl : u = Value.ref b := r
    obtain ⟨its, rv, hT, _⟩ := I.tuple hb
    refine ⟨by rw [List.length_cons, List.length_cons, h1], fun j z e => ?_⟩
    cases j with
    | zero =>
      cases e
      exact ⟨_, rfl, ⟨b, rfl, hb⟩, b, _, rfl, hT, intsAre_of rv⟩
    | succ j =>
      obtain ⟨v, e1, e2⟩ := h2 j z (by simpa using e)
      exact ⟨v, by simpa using e1, e2⟩
theorem cr_minPr (hc : X.calm = true) (hu : X.A.units + 2 < cLine) : CallR X (.builtin "min") (rMinPr X.K) := by
  intro pins s σ H vs us Q I r h
  obtain ⟨a, xs, p0, ps, rfl, hs, hk, q⟩ := h
  obtain ⟨its, rv, hl, hz⟩ := I.list hs
  obtain ⟨u, rfl, ru⟩ := vals1 r
  obtain rfl : u = Value.ref a := ru
  obtain ⟨h1, h2⟩ := keys_prs I hk rv
  refine call_min_prs (T := fun v p => ∃ b, v = .ref b ∧ SqT X.K H b [.int p.1, .int p.2]) hu (I.ok.hd hc) hl.isList (by rw [List.size_toArray]; exact h1) (fun j z e => ?_) fun v h' tk hv kp => ?_
  · obtain ⟨v, e1, e2⟩ := h2 j z e
    exact ⟨v, by simpa using e1, e2⟩
  · obtain ⟨⟨b, rfl, hb⟩, _⟩ := hv
    exact ⟨.ref b, H, I.kept kp, rfl, q b hb⟩
/-- min(xs), max(xs) -/
def minI (b : Int) (l : List Int) : Int := l.foldl (fun a n => if n < a then n else a) b
def maxI (b : Int) (l : List Int) : Int := l.foldl (fun a n => if n > a then n else a) b
theorem minI_is : ∀ (l : List Int) (b : Int), (minI b l = b ∨ minI b l ∈ l) ∧ minI b l ≤ b ∧ ∀ y ∈ l, minI b l ≤ y
  | [], b => ⟨.inl rfl, Int.le_refl _, fun _ h => nomatch h⟩
  | n :: l, b => by
    obtain ⟨h1, h2, h3⟩ := minI_is l (if n < b then n else b)
    have e : minI b (n :: l) = minI (if n < b then n else b) l := rfl
    rw [e]
    obtain ⟨z, hz⟩ : ∃ z, z = if n < b then n else b := ⟨_, rfl⟩
    have hz2 : (z = n ∧ n < b) ∨ (z = b ∧ ¬ n < b) := by
      rw [hz]
      split
      · rename_i k; exact .inl ⟨rfl, k⟩
      · rename_i k; exact .inr ⟨rfl, k⟩
    rw [← hz] at h1 h2 h3 ⊢
    clear hz e
    refine ⟨?_, ?_, fun y hy => ?_⟩
    · rcases h1 with h1 | h1
      · rw [h1]
        rcases hz2 with ⟨k, _⟩ | ⟨k, _⟩
        · rw [k]; exact .inr List.mem_cons_self
        · exact .inl k
      · exact .inr (List.mem_cons_of_mem _ h1)
    · omega
    · rcases List.mem_cons.mp hy with rfl | hy
      · omega
      · exact h3 y hy
theorem maxI_is : ∀ (l : List Int) (b : Int), (maxI b l = b ∨ maxI b l ∈ l) ∧ b ≤ maxI b l ∧ ∀ y ∈ l, y ≤ maxI b l
  | [], b => ⟨.inl rfl, Int.le_refl _, fun _ h => nomatch h⟩
  | n :: l, b => by
    obtain ⟨h1, h2, h3⟩ := maxI_is l (if n > b then n else b)
    have e : maxI b (n :: l) = maxI (if n > b then n else b) l := rfl
    rw [e]
    obtain ⟨z, hz⟩ : ∃ z, z = if n > b then n else b := ⟨_, rfl⟩
    have hz2 : (z = n ∧ n > b) ∨ (z = b ∧ ¬ n > b) := by
      rw [hz]
      split
      · rename_i k; exact .inl ⟨rfl, k⟩
      · rename_i k; exact .inr ⟨rfl, k⟩
    rw [← hz] at h1 h2 h3 ⊢
    clear hz e
    refine ⟨?_, ?_, fun y hy => ?_⟩
    · rcases h1 with h1 | h1
      · rw [h1]
        rcases hz2 with ⟨k, _⟩ | ⟨k, _⟩
        · rw [k]; exact .inr List.mem_cons_self
        · exact .inl k
      · exact .inr (List.mem_cons_of_mem _ h1)
    · omega
    · rcases List.mem_cons.mp hy with rfl | hy
      · omega
      · exact h3 y hy
def minLD (x : D) : M D := fun s => match seqD s x with
  | some ds => (match dInts ds, dPl ds with
    | some (n :: ns), _ => .ok (.int (minI n ns)) s
    | _, some (p :: ps) => .ok (pD (minP p ps)) s
    | _, _ => .stuck)
  | none => .stuck
def maxLD (x : D) : M D := fun s => match seqD s x with
  | some ds => (match dInts ds with
    | some (n :: ns) => .ok (.int (maxI n ns)) s
    | _ => .stuck)
  | none => .stuck
theorem cr_minLD (hc : X.calm = true) (hu : X.A.units + 65 < cLine) : CallR X (.builtin "min") (RLof X.K E (fun1 minLD)) := CallR.imp (CallR.or (cr_min hc) (cr_minPr hc (by omega))) (rl_1 fun μ s d v H Q hs r post => by
  unfold minLD at post
  split at post
  · rename_i ds e1
    obtain ⟨l, xs, rfl, hq, hl⟩ := seqD_rep hs r e1
    split at post
    · rename_i _ _ n ns e2
      have ex := dInts_rep e2 hl
      subst ex
      obtain ⟨h1, h2, h3⟩ := minI_is ns n
      refine .inl ⟨l, n :: ns, rfl, hq, by simp, fun m hm hle => ?_⟩
      have : m = minI n ns := by
        have a1 : m ≤ minI n ns := by
          rcases h1 with h1 | h1
          · rw [h1]
            exact hle n List.mem_cons_self
          · exact hle _ (List.mem_cons_of_mem _ h1)
        have a2 : minI n ns ≤ m := by
          rcases List.mem_cons.mp hm with rfl | hm
          · exact h2
          · exact h3 m hm
        omega
      rw [this]
      exact post_int hs post
    · rename_i p ps e3 e2
      refine .inr ⟨l, xs, p, ps, rfl, hq, dPl_rep e3 hl, fun b hb => post_val hs post (.tup hb (.cons (.int _) (.cons (.int _) .nil)))⟩
    · exact (show False from post).elim
  · exact (show False from post).elim)
theorem cr_maxLD (hc : X.calm = true) : CallR X (.builtin "max") (RLof X.K E (fun1 maxLD)) := CallR.imp (cr_max hc) (rl_1 fun μ s d v H Q hs r post => by
  unfold maxLD at post
  split at post
  · rename_i ds e1
    obtain ⟨l, xs, rfl, hq, hl⟩ := seqD_rep hs r e1
    split at post
    · rename_i n ns e2
      have ex := dInts_rep e2 hl
      subst ex
      obtain ⟨h1, h2, h3⟩ := maxI_is ns n
      refine ⟨l, n :: ns, rfl, hq, by simp, fun m hm hle => ?_⟩
      have : m = maxI n ns := by
        have a1 : maxI n ns ≤ m := by
          rcases h1 with h1 | h1
          · rw [h1]
            exact hle n List.mem_cons_self
          · exact hle _ (List.mem_cons_of_mem _ h1)
        have a2 : m ≤ maxI n ns := by
          rcases List.mem_cons.mp hm with rfl | hm
          · exact h2
          · exact h3 m hm
        omega
      rw [this]
      exact post_int hs post
    · exact (show False from post).elim
  · exact (show False from post).elim)
theorem minP_mem : ∀ (ps : List (Int × Int)) (p : Int × Int), minP p ps = p ∨ minP p ps ∈ ps
  | [], p => .inl rfl
  | q :: ps, p => by
    rcases minP_mem ps (if SrtO.lexB q p = true then q else p) with h | h
    · by_cases hl : SrtO.lexB q p = true
      · rw [if_pos hl] at h
        right
        show minP (if SrtO.lexB q p = true then q else p) ps ∈ q :: ps
        rw [if_pos hl, h]
        exact List.mem_cons_self
      · rw [if_neg hl] at h
        left
        show minP (if SrtO.lexB q p = true then q else p) ps = p
        rw [if_neg hl, h]
    · exact .inr (List.mem_cons_of_mem _ h)
end
end PL

/-! PL22: dicts whose keys are tuples of integers and texts: displays, stores, list(d). -/
namespace PL
open PySem PySem.Spec PyProof.Rows L2
/-! ### the machine: a display -/
section
variable {prog : Program} {w : World} {A : Around} {E : Value → Shared → Prop}
/-- what a pair of a display carries -/
def CarT (h : Heap) : List (Value × Value) → List (List L2.Key × Addr × Value) → Prop := Paired fun v q => v.1 = .ref q.2.1 ∧ v.2 = q.2.2 ∧ IsTupleKey (mixKind prog w) h q.1 q.2.1
theorem CarT.but {h h' : Heap} {d : Addr} (hd : ∃ o, h.get? d = some o ∧ o.cls = .type "dict") (k : Heap.SameBut d h h') : ∀ {vs : List (Value × Value)} {qs : List (List L2.Key × Addr × Value)}, CarT (prog := prog) (w := w) h vs qs → CarT (prog := prog) (w := w) h' vs qs
  | _, _, .nil => .nil
  | _, _, .cons ⟨a, b, o, its, n, ho, hc, r⟩ t => by
    refine .cons ⟨a, b, o, its, n, k.extBut _ _ (fun z => ?_) ho, hc, r⟩ (CarT.but hd k t)
    obtain ⟨o2, h2, c2⟩ := hd
    rw [z, h2] at ho
    cases ho
    rw [hc] at c2
    exact absurd (Value.type.inj c2) (by decide)
theorem dh_dict {h : Heap} {d : Addr} {acc : List (List L2.Key × Addr × Value)} (hm : h.DictOfH (tupleKind (mixKind prog w)) d acc) : ∃ o, h.get? d = some o ∧ o.cls = .type "dict" := by
  obtain ⟨o, es, ep, ho, hx, hd, he, hk, hn⟩ := hm
  exact ⟨o, ho, hx.1⟩
theorem storeAllH {d : Addr} (hu : A.units < cLine) : ∀ (vs : List (Value × Value)) (kvs acc : List (List L2.Key × Addr × Value)) (s : Shared) (Q : PUnit → Shared → Prop), CarT (prog := prog) (w := w) s.heap vs kvs → s.heap.DictOfH (tupleKind (mixKind prog w)) d acc → acc.length + kvs.length ≤ sizeLine →
    (∀ h' tk, h'.DictOfH (tupleKind (mixKind prog w)) d (mergedH acc kvs) → Heap.SameBut d s.heap h' → Q PUnit.unit { s with heap := h', toks := tk }) →
    wpAny (model prog w) A (forIn vs PUnit.unit fun x _ => do
      dictSet d x.1 x.2
      pure (ForInStep.yield PUnit.unit)) Q E s
  | _, _, acc, s, Q, .nil, hm, hl, h => by
    refine wpAny_pure ?_
    exact h s.heap s.toks hm (Heap.SameBut.refl _ _)
  | v :: vs, q :: kvs, acc, s, Q, .cons ⟨e1, e2, hk⟩ t, hm, hl, h => by
    obtain ⟨v1, v2⟩ := v
    simp only [] at e1 e2
    subst e1 e2
    rw [List.length_cons] at hl
    rw [List.forIn_cons]
    refine wpAny_bind (wpAny_bind (wpAny_dictSet_heap (knd := tupleKind (mixKind prog w)) (k := q.1) (hsz := by omega) hu hk hm fun h2 hm2 hs2 => wpAny_pure ?_))
    refine storeAllH hu vs kvs _ _ Q (CarT.but (dh_dict hm) hs2 t) hm2 ?_ fun h' tk d' s' => ?_
    · exact Nat.le_trans (Nat.add_le_add_right (storedH_le acc q.1 q.2.1 q.2.2) _) (by omega)
    · exact h h' tk d' (hs2.trans s')
theorem CarT.length {h : Heap} : ∀ {vs : List (Value × Value)} {qs : List (List L2.Key × Addr × Value)}, CarT (prog := prog) (w := w) h vs qs → vs.length = qs.length
  | _, _, .nil => rfl
  | _, _, .cons _ t => by rw [List.length_cons, List.length_cons, CarT.length t]
theorem subDictH (hu : A.units < cLine) {s : Shared} {pairs : List (Sem Value × Sem Value)} {Q : Addr → Shared → Prop} (hlen : pairs.length ≤ 15)
    (h : wpAny (model prog w) A (evalPairs pairs) (fun vs s1 => ∃ kvs, CarT (prog := prog) (w := w) s1.heap vs kvs ∧ s1.heap.DictOfH (tupleKind (mixKind prog w)) s.heap.objs.size [] ∧
      ∀ h' tk, h'.DictOfH (tupleKind (mixKind prog w)) s.heap.objs.size (mergedH [] kvs) → Heap.SameBut s.heap.objs.size s1.heap h' → Q s.heap.objs.size { s1 with heap := h', toks := tk }) E
      { s with heap := s.heap.push { cls := Value.type "dict", data := Data.dict #[] } }) : wpAny (model prog w) A (subDict pairs) Q E s := by
  unfold subDict
  refine wpAny_bind (wpAny_alloc (wpAny_bind (wpAny_holding ?_)))
  rw [if_pos hlen]
  refine wpAny_bind (wpAny_mono (wpAny_evalPairs_len h) (fun vs s1 h1 => ?_) fun _ _ e => e)
  obtain ⟨hvl, kvs, hc, hm, hQ⟩ := h1
  have hsz : ([] : List (List L2.Key × Addr × Value)).length + kvs.length ≤ sizeLine := by
    have := hc.length
    rw [List.length_nil, Nat.zero_add, ← this, hvl]
    exact Nat.le_trans hlen (by decide)
  exact wpAny_holding (wpAny_bind (storeAllH hu vs kvs [] s1 _ hc hm hsz fun h' tk hm' hs' => wpAny_pure (wpAny_pure (hQ h' tk hm' hs'))))
theorem wpDictH (hu : A.units < cLine) {s : Shared} {env : PySem.Env} {keys : List (Option Expr)} {values : List Expr} {pos : Pos} {Q : Value → Shared → Prop} (hall : (keys.all fun x => x.isSome) = true) (hl : keys.length = values.length) (h0 : keys ≠ []) (h15 : keys.length ≤ 15)
    (h : wpAny (model prog w) A (evalPairs (pairTrees keys values env pos)) (fun vs s1 => ∃ kvs, CarT (prog := prog) (w := w) s1.heap vs kvs ∧ s1.heap.DictOfH (tupleKind (mixKind prog w)) s.heap.objs.size [] ∧
      ∀ h' tk, h'.DictOfH (tupleKind (mixKind prog w)) s.heap.objs.size (mergedH [] kvs) → Heap.SameBut s.heap.objs.size s1.heap h' → Q (.ref s.heap.objs.size) { s1 with heap := h', toks := tk }) E
      { s with heap := s.heap.push { cls := Value.type "dict", data := Data.dict #[] } }) : wpAny (model prog w) A (eval (Expr.Dict keys values pos) env) Q E s := by
  have hn := pairTrees_length keys values env pos hall hl
  have hne : pairTrees keys values env pos ≠ [] := fun he => h0 (List.length_eq_zero_iff.mp (by rw [← hn, he]; rfl))
  rw [arm_eval_Dict, zip_pairTrees keys values env pos hall hl, dictDisplay_pairs _ hne (by omega)]
  refine wpAny_bind (wpAny_standAt (wpAny_bind (subDictH hu (by omega) (wpAny_mono h (fun vs s1 h1 => ?_) fun _ _ e => e))))
  obtain ⟨kvs, hc, hm, hq⟩ := h1
  exact ⟨kvs, hc, hm, fun h' tk a b => wpAny_pure (hq h' tk a b)⟩
end
/-! ### the layer's rule -/
def KPs (H : Hp) : List (V × V) → List (List L2.Key × V) → Prop := Paired fun x kv => ∃ b, x.1 = V.ref b ∧ H b = some (.tup (kv.1.map kV)) ∧ x.2 = kv.2
def mergeT (kvs more : List (List L2.Key × V)) : List (List L2.Key × V) := more.foldl (fun acc kv => putK acc kv.1 kv.2) kvs
theorem carT_of {P : Program} {w : World} {H : Hp} {h : Heap} (ok : HOk P w H h) : ∀ {ps : List (V × V)} {kvs : List (List L2.Key × V)} {ws : List (Value × Value)}, KPs H ps kvs → VV ps ws → ∃ qs, CarT (prog := P) (w := w) h ws qs ∧ KT H kvs qs
  | _, _, _, .nil, .nil => ⟨[], .nil, .nil⟩
  | p :: ps, kv :: kvs, v :: ws, .cons ⟨b, e1, e2, e3⟩ t, .cons r rt => by
    obtain ⟨qs, h1, h2⟩ := carT_of ok t rt
    obtain ⟨r1, r2⟩ := r
    rw [e1] at r1
    obtain r1 : v.1 = Value.ref b := r1
    rw [e3] at r2
    exact ⟨(kv.1, b, v.2) :: qs, .cons ⟨r1, rfl, key_of ok e2⟩ h1, .cons ⟨rfl, e2, r2⟩ h2⟩
theorem mergeT_kt {H : Hp} : ∀ {more kvs : List (List L2.Key × V)} {qs xs : List (List L2.Key × Addr × Value)}, KT H more qs → KT H kvs xs → KT H (mergeT kvs more) (mergedH xs qs)
  | _, kvs, _, xs, .nil, h => h
  | p :: more, kvs, q :: qs, xs, .cons ⟨a, b, c⟩ t, h => by
    show KT H (mergeT (putK kvs p.1 p.2) more) (mergedH (storedH xs q.1 q.2.1 q.2.2) qs)
    rw [← a]
    exact mergeT_kt t (h.put p.1 b c)
theorem KT.upd {H : Hp} {a : Addr} {o : HO} (ha : ∀ xs, H a ≠ some (.tup xs)) : ∀ {kvs : List (List L2.Key × V)} {qs : List (List L2.Key × Addr × Value)}, KT H kvs qs → KT (upd H a o) kvs qs
  | _, _, .nil => .nil
  | _, _, .cons ⟨x, y, z⟩ t => .cons ⟨x, by rw [upd_ne fun e => ha _ (by rw [← e]; exact y)]; exact y, z⟩ (KT.upd ha t)
theorem length_mergeT : ∀ (more kvs : List (List L2.Key × V)), (mergeT kvs more).length ≤ kvs.length + more.length
  | [], kvs => Nat.le_refl _
  | p :: more, kvs => by
    have h := length_mergeT more (putK kvs p.1 p.2)
    have h2 := length_putK kvs p.1 p.2
    show (mergeT (putK kvs p.1 p.2) more).length ≤ kvs.length + (more.length + 1)
    omega
def tDispT (trs : List (TE × TE)) : TE := fun σ H Q => ∀ p, H p = none → tPairs trs σ (upd H p (.dT [])) fun ps H2 => H2 p = some (.dT []) ∧ ∃ kvs, KPs H2 ps kvs ∧ kvs.length ≤ 15 ∧ Q (.ref p) (upd H2 p (.dT (mergeT [] kvs)))
theorem pe_dispT {X : Cx} {pos : Pos} {keys : List (Option Expr)} {values : List Expr} {trs : List (TE × TE)} (hu : X.A.units < cLine) (h : PPs X pos keys values trs) (hall : (keys.all fun x => x.isSome) = true) (hl : keys.length = values.length) (h0 : keys ≠ []) (h15 : keys.length ≤ 15) :
    PE X (Expr.Dict keys values pos) (tDispT trs) := ⟨fun pins s σ H Q I q => by
  have hn := I.hok.fresh (Nat.le_refl s.heap.objs.size)
  have I1 : Inv X pins σ (upd H s.heap.objs.size (.dT [])) { s with heap := s.heap.push { cls := Value.type "dict", data := Data.dict #[] } } := I.laid (fun x x_1 q => Heap.get?_push_of_some _ q) (Nat.le_refl _) (dt_empty s.heap I.big)
  refine wpDictH hu hall hl h0 h15 (wpAny_mono (h.run pins _ σ _ _ I1 (q s.heap.objs.size hn)) (fun ws s2 z => ?_) fun _ _ e => e)
  obtain ⟨ps, H2, I2, rel, e, kvs, kp, lk, q2⟩ := z
  obtain ⟨qs, hc, kt⟩ := carT_of I2.hok kp rel
  obtain ⟨z1, hd, xs0, kt0, dd⟩ := dt_of I2.hok e
  have ex : xs0 = [] := by cases kt0; rfl
  subst ex
  refine ⟨qs, hc, dd, fun h' tk dd' hs => ⟨.ref s.heap.objs.size, upd H2 s.heap.objs.size (.dT (mergeT [] kvs)), ?_, rfl, q2⟩⟩
  have he : ∃ q, h'.get? s.heap.objs.size = some q := by
    obtain ⟨o, _, _, ho, _⟩ := dd'
    exact ⟨o, ho⟩
  obtain ⟨o, es, ep, ho, hx, hd2, he2, hk2, hn2⟩ := dd'
  refine d_write I2 (by rw [e]; trivial) hs he ⟨?_, hd, _, KT.upd (fun xs z => ?_) (mergeT_kt kt kt0), o, es, ep, ho, hx, hd2, he2, hn2⟩
  · have := length_mergeT kvs []
    rw [List.length_nil, Nat.zero_add] at this
    exact Nat.le_trans (Nat.le_trans this lk) (by decide)
  · rw [e] at z
    cases z⟩
/-! ### over the store -/
def putTD (kvs : List (List L2.Key × D)) (k : List L2.Key) (v : D) : List (List L2.Key × D) :=
  if (kvs.any fun kv => decide (kv.1 = k)) = true then kvs.map (fun kv => if kv.1 = k then (kv.1, v) else kv) else kvs ++ [(k, v)]
def mergeTD (kvs more : List (List L2.Key × D)) : List (List L2.Key × D) := more.foldl (fun acc kv => putTD acc kv.1 kv.2) kvs
theorem anyT_rep {K : PySem.W.Frag} {μ : Mu} {H : Hp} {k : List L2.Key} : ∀ {xs : List (List L2.Key × V)} {ds : List (List L2.Key × D)}, RepK K μ H xs ds → (xs.any fun kv => decide (kv.1 = k)) = ds.any fun kv => decide (kv.1 = k)
  | [], [], _ => rfl
  | [], q :: ds, h => by have := h.1; simp at this
  | p :: xs, [], h => by have := h.1; simp at this
  | p :: xs, q :: ds, ⟨h1, h2⟩ => by
    rw [List.map_cons, List.map_cons] at h1 h2
    cases h2 with
    | cons r t => rw [List.any_cons, List.any_cons, (List.cons.inj h1).1, anyT_rep ⟨(List.cons.inj h1).2, t⟩]
theorem replT_rep {K : PySem.W.Frag} {μ : Mu} {H : Hp} {k : List L2.Key} {v : V} {d : D} (r0 : Rep K μ H v d) : ∀ {xs : List (List L2.Key × V)} {ds : List (List L2.Key × D)}, RepK K μ H xs ds → RepK K μ H (xs.map fun kv => if kv.1 = k then (kv.1, v) else kv) (ds.map fun kv => if kv.1 = k then (kv.1, d) else kv)
  | [], [], h => h
  | [], q :: ds, h => by have := h.1; simp at this
  | p :: xs, [], h => by have := h.1; simp at this
  | p :: xs, q :: ds, ⟨h1, h2⟩ => by
    rw [List.map_cons, List.map_cons] at h1 h2
    cases h2 with
    | cons r t =>
      obtain ⟨i1, i2⟩ := replT_rep r0 (k := k) ⟨(List.cons.inj h1).2, t⟩
      have e := (List.cons.inj h1).1
      unfold RepK
      rw [List.map_cons, List.map_cons, List.map_cons, List.map_cons, List.map_cons, List.map_cons]
      by_cases hk : q.1 = k
      · rw [if_pos hk, if_pos (e.trans hk)]
        exact ⟨by rw [i1, e], .cons r0 i2⟩
      · rw [if_neg hk, if_neg (fun z => hk (e.symm.trans z))]
        exact ⟨by rw [i1, e], .cons r i2⟩
theorem putT_rep {K : PySem.W.Frag} {μ : Mu} {H : Hp} {k : List L2.Key} {v : V} {d : D} {xs : List (List L2.Key × V)} {ds : List (List L2.Key × D)} (h : RepK K μ H xs ds) (r : Rep K μ H v d) : RepK K μ H (putK xs k v) (putTD ds k d) := by
  unfold putK putTD
  rw [anyT_rep h]
  split
  · exact replT_rep r h
  · refine ⟨by rw [List.map_append, List.map_append, h.1]; rfl, ?_⟩
    rw [List.map_append, List.map_append]
    exact RepL.snoc r h.2
theorem mergeT_rep {K : PySem.W.Frag} {μ : Mu} {H : Hp} : ∀ {more : List (List L2.Key × V)} {md : List (List L2.Key × D)} {xs : List (List L2.Key × V)} {ds : List (List L2.Key × D)}, RepK K μ H more md → RepK K μ H xs ds → RepK K μ H (mergeT xs more) (mergeTD ds md)
  | [], [], xs, ds, _, h => h
  | [], q :: md, _, _, h, _ => by have := h.1; simp at this
  | p :: more, [], _, _, h, _ => by have := h.1; simp at this
  | p :: more, q :: md, xs, ds, ⟨h1, h2⟩, h => by
    rw [List.map_cons, List.map_cons] at h1 h2
    cases h2 with
    | cons r t =>
      show RepK K μ H (mergeT (putK xs p.1 p.2) more) (mergeTD (putTD ds q.1 q.2) md)
      have e := (List.cons.inj h1).1
      rw [e]
      exact mergeT_rep ⟨(List.cons.inj h1).2, t⟩ (putT_rep h r)
theorem cell_dT {K : PySem.W.Frag} {μ : Mu} {H : Hp} {s : S} {n : Nat} {a : Addr} {ds : List (List L2.Key × D)} (hs : SimS K μ H s) (ha : μ.c[n]? = some a) (e : s[n]? = some (.dT ds)) : ∃ xs, H a = some (.dT xs) ∧ RepK K μ H xs ds := by
  obtain ⟨b, hb, hc⟩ := hs.cell n _ e
  rw [ha] at hb
  cases hb
  exact hc
theorem put_cellT {K : PySem.W.Frag} {μ : Mu} {H : Hp} {s : S} {n : Nat} {a : Addr} {xs ys : List (List L2.Key × V)} {kvs : List (List L2.Key × D)} (hs : SimS K μ H s) (hn : μ.c[n]? = some a) (h : H a = some (.dT xs)) (l : RepK K μ H ys kvs) :
    Grow μ H μ (upd H a (.dT ys)) ∧ SimS K μ (upd H a (.dT ys)) (s.set n (.dT kvs)) := by
  have hm : Mut (H a) := by rw [h]; trivial
  have g := grow_put (μ := μ) (H := H) (a := a) (o := .dT ys) hm (List.mem_of_getElem? hn)
  exact ⟨g, hs.put hn hm ⟨_, upd_same, l.grow g⟩⟩
/-- a tuple display whose parts are integers and texts -/
def keyM (mr : Env → M (List D)) (env : Env) : M (List L2.Key) := mr env >>= fun ds => match mapO dKey ds with
  | some ks => if ds.length ≤ 100000 then Pure.pure ks else stuck
  | none => stuck
def TKof (K : PySem.W.Frag) (E : XK) (m : Env → M (List L2.Key)) : TE := fun σ H Q => ∃ μ env s, SimV K μ H σ env ∧ SimS K μ H s ∧ Post K E μ H (m env s) (fun ks _ _ H' => ∀ p, H' p = some (.tup (ks.map kV)) → Q (.ref p) H')
def SKe (X : Cx) (E : XK) (e : Expr) (m : Env → M (List L2.Key)) : Prop := PE X e (TKof X.K E m)
theorem keysT_rep {K : PySem.W.Frag} {μ : Mu} {H : Hp} : ∀ {ds : List D} {vs : List V} {ks : List L2.Key}, mapO dKey ds = some ks → RepL K μ H vs ds → vs = ks.map kV
  | [], _, ks, e, .nil => by cases e; rfl
  | d :: ds, _, ks, e, .cons r t => by
    unfold mapO at e
    cases q : dKey d with
    | none => rw [q] at e; cases e
    | some k =>
      rw [q] at e
      cases q2 : mapO dKey ds with
      | none => rw [q2] at e; cases e
      | some ms =>
        rw [q2] at e
        cases e
        rw [dKey_rep q r, keysT_rep q2 t, List.map_cons]
section
variable {X : Cx} {E : XK} {es : List Expr} {mr : Env → M (List D)} {pos : Pos}
theorem se_key {k : Nat} (h : SA X E es mr) : SKe X E (.Tuple es k pos) (keyM mr) := PE.imp (pe_tup h) (by
  rintro σ H Q ⟨μ, env, s, hv, hs, post⟩
  refine ⟨μ, env, s, hv, hs, (Post.bind post).mono fun ds s1 μ1 H1 g1 hs1 p1 vs hl => ?_⟩
  cases e : mapO dKey ds with
  | none => simp only [e] at p1; exact (show False from p1).elim
  | some ks =>
    simp only [e] at p1
    split at p1
    · rename_i hz
      refine ⟨by rw [hl.length]; exact sz_ok hz, fun p hp => ?_⟩
      have p2 : Post X.K E μ1 H1 (.ok ks s1 : R (List L2.Key)) _ := p1
      exact p2 _ _ (grow_new hp) (hs1.lay hp) p (by rw [upd_same, keysT_rep e hl])
    · exact (show False from p1).elim)
/-- the pairs of a display -/
def tNil (_ : Env) : M (List (List L2.Key × D)) := Pure.pure []
def tCons (mk : Env → M (List L2.Key)) (mv : Env → M D) (mr : Env → M (List (List L2.Key × D))) (env : Env) : M (List (List L2.Key × D)) := mk env >>= fun k => mv env >>= fun v => mr env >>= fun r => Pure.pure ((k, v) :: r)
def TPTof (K : PySem.W.Frag) (E : XK) (m : Env → M (List (List L2.Key × D))) : L2.St → Hp → (List (V × V) → Hp → Prop) → Prop := fun σ H Q => ∃ μ env s, SimV K μ H σ env ∧ SimS K μ H s ∧ Post K E μ H (m env s) (fun ds _ μ' H' => ∀ ps kvs, KPs H' ps kvs → RepK K μ' H' kvs ds → Q ps H')
structure STs2 (X : Cx) (E : XK) (pos : Pos) (keys : List (Option Expr)) (values : List Expr) (m : Env → M (List (List L2.Key × D))) : Prop where
  run : ∃ trs, PPs X pos keys values trs ∧ ∀ σ H Q, TPTof X.K E m σ H Q → tPairs trs σ H Q
theorem stt_nil : STs2 X E pos [] [] tNil := ⟨[], pps_nil, by
  rintro σ H Q ⟨μ, env, s, hv, hs, post⟩
  exact Post.now (a := ([] : List (List L2.Key × D))) post hs [] [] .nil ⟨rfl, .nil⟩⟩
theorem stt_cons {k v : Expr} {ks : List (Option Expr)} {vs : List Expr} {mk : Env → M (List L2.Key)} {mv : Env → M D} {mr : Env → M (List (List L2.Key × D))} (hk : SKe X E k mk) (hv : SE X E v mv) (hr : STs2 X E pos ks vs mr) : STs2 X E pos (some k :: ks) (v :: vs) (tCons mk mv mr) := by
  obtain ⟨trs, h1, h2⟩ := hr
  refine ⟨(TKof X.K E mk, TEof X.K E mv) :: trs, pps_cons hk hv h1, ?_⟩
  rintro σ H Q ⟨μ, env, s, hv, hs, post⟩
  refine ⟨μ, env, s, hv, hs, (Post.bind post).mono fun dk s1 μ1 H1 g1 hs1 p1 b hb => ⟨μ1, env, s1, hv.grow g1, hs1, (Post.bind p1).mono fun dv s2 μ2 H2 g2 hs2 p2 y hy => h2 _ _ _ ⟨μ2, env, s2, (hv.grow g1).grow g2, hs2, (Post.bind p2).mono fun r s3 μ3 H3 g3 hs3 p3 ps kvs hps hrk => ?_⟩⟩⟩
  refine Post.now (a := (dk, dv) :: r) p3 hs3 ((.ref b, y) :: ps) ((dk, y) :: kvs) (.cons ⟨b, rfl, g3.tup _ _ (g2.tup _ _ hb), rfl⟩ hps) ⟨?_, ?_⟩
  · rw [List.map_cons, List.map_cons, hrk.1]
  · exact .cons (Rep.grow g3 _ _ hy) hrk.2
def fillT (n : Nat) (ds : List (List L2.Key × D)) : M D := fun s => match s[n]? with
  | some (.dT []) => if ds.length ≤ 15 then .ok (.ptr n) (s.set n (.dT (mergeTD [] ds))) else .stuck
  | _ => .stuck
def dispTM (mr : Env → M (List (List L2.Key × D))) (env : Env) : M D := allocC (.dT []) >>= fun p => mr env >>= fun ps => match p with
  | .ptr n => fillT n ps
  | _ => stuck
theorem se_dispT {keys : List (Option Expr)} {values : List Expr} {mr : Env → M (List (List L2.Key × D))} (hu : X.A.units < cLine) (h : STs2 X E pos keys values mr) (hall : keys.all (·.isSome) = true := by rfl) (hl : keys.length = values.length := by rfl) (h0 : keys ≠ [] := by exact List.cons_ne_nil _ _)
    (h15 : keys.length ≤ 15 := by decide) : SE X E (.Dict keys values pos) (dispTM mr) := by
  obtain ⟨trs, h1, h2⟩ := h
  refine PE.imp (pe_dispT hu h1 hall hl h0 h15) ?_
  rintro σ H Q ⟨μ, env, s, hv, hs, post⟩ p hp
  have hs2 : SimS X.K (μ.add p) (upd H p (.dT [])) (s ++ [.dT []]) := hs.alloc hp ⟨[], upd_same, rfl, .nil⟩
  have g := grow_cell (μ := μ) (o := .dT []) hp
  have post1 : Post X.K E (μ.add p) (upd H p (.dT [])) ((mr env >>= fun ps => fillT s.length ps) (s ++ [.dT []])) (okD X.K Q) := Post.later g post
  refine h2 _ _ _ ⟨μ.add p, env, _, hv.grow g, hs2, (Post.bind post1).mono fun ds s1 μ1 H1 g1 hs1 p1 ps kvs hps hrk => ?_⟩
  have hat : μ1.c[s.length]? = some p := g1.at (add_at hs)
  unfold fillT at p1
  cases ec : s1[s.length]? with
  | none => simp only [ec] at p1; exact (show False from p1).elim
  | some cl =>
    simp only [ec] at p1
    split at p1
    · rename_i e1
      cases e1
      split at p1
      · rename_i hz
        obtain ⟨xs, f1, f2⟩ := cell_dT hs1 hat ec
        have fx : xs = [] := by
          have := f2.length
          exact List.length_eq_zero_iff.mp this
        subst fx
        refine ⟨f1, kvs, hps, by rw [hrk.length]; exact hz, ?_⟩
        obtain ⟨g2, hs3⟩ := put_cellT hs1 hat f1 (mergeT_rep hrk (xs := []) (ds := []) ⟨rfl, .nil⟩)
        exact p1 _ _ g2 hs3 (.ref p) (.ptr hat)
      · exact (show False from p1).elim
    · exact (show False from p1).elim
/-! ### stores -/
def setTD (o : D) (k : List L2.Key) (v : D) : M Unit := match o with
  | .ptr n => fun s => match s[n]? with
    | some (.dT kvs) => if kvs.length < 100000 then .ok () (s.set n (.dT (putTD kvs k v))) else .stuck
    | _ => .stuck
  | _ => stuck
def gSubT (mo : Env → M D) (mk : Env → M (List L2.Key)) (v : D) (env : Env) : M Env := mo env >>= fun o => mk env >>= fun k => setTD o k v >>= fun _ => Pure.pure env
theorem setT_ok {K : PySem.W.Frag} {μ : Mu} {H : Hp} {s : S} {o v : D} {k : List L2.Key} {x z : V} {b : Addr} {q : Unit → S → Mu → Hp → Prop} (hs : SimS K μ H s) (ro : Rep K μ H x o) (hb : H b = some (.tup (k.map kV))) (rv : Rep K μ H z v) (post : Post K E μ H (setTD o k v s) q) :
    ∃ a H', x = .ref a ∧ DPut H a (.ref b) z H' ∧ ∃ s', Grow μ H μ H' ∧ SimS K μ H' s' ∧ q () s' μ H' := by
  cases ro with
  | @ptr a n hn =>
    unfold setTD at post
    cases ec : s[n]? with
    | none => simp only [ec] at post; exact (show False from post).elim
    | some cl =>
      cases cl with
      | dT kvs =>
        simp only [ec] at post
        split at post
        · rename_i hz
          obtain ⟨xs, h1, h2⟩ := cell_dT hs hn ec
          obtain ⟨g, hs'⟩ := put_cellT hs hn h1 (putT_rep (k := k) h2 rv)
          exact ⟨a, _, rfl, .inr ⟨xs, k, b, h1, rfl, hb, line_of (by rw [h2.length]; exact hz), rfl⟩, _, g, hs', post _ _ g hs'⟩
        · exact (show False from post).elim
      | _ => simp only [ec] at post; exact (show False from post).elim
  | _ => exact (show False from post).elim
theorem sg_subT {a b : Expr} {ma : Env → M D} {mk : Env → M (List L2.Key)} (hu : X.A.units + 1 < cLine) (ha : SE X E a ma) (hb : SKe X E b mk) (hh : ∀ v, assign (.Subscript a b pos) X.env v = (do
      let ov ← holding [v] (eval a X.env)
      let iv ← holding [v, ov] (eval b X.env)
      standAt pos
      holding [v, ov, iv] (setItem ov iv v)
      release [v, ov, iv] []) := by intro _; rfl) : SG X E (.Subscript a b pos) (gSubT ma mk) := PG.imp (pg_sub ha hb (set_dict hu) hh) (by
  rintro v σ H Q ⟨μ, env, s, d, hv, hs, r, post⟩
  refine ⟨μ, env, s, hv, hs, (Post.bind post).mono fun o s1 μ1 H1 g1 hs1 p1 x hx => ?_⟩
  refine ⟨μ1, env, s1, hv.grow g1, hs1, (Post.bind p1).mono fun k s2 μ2 H2 g2 hs2 p2 b hb => ?_⟩
  obtain ⟨a, H', e1, h1, s3, g3, hs3, q3⟩ := setT_ok hs2 (Rep.grow g2 o x hx) hb (Rep.grow (g1.trans g2) d v r) (Post.bind p2)
  exact ⟨a, H', e1, h1, Post.now (a := env) q3 hs3 _ (((hv.grow g1).grow g2).grow g3)⟩)
/-! ### list(d) -/
def keyD : L2.Key → D
  | .inl i => .int i
  | .inr x => .str x
def listT (x : D) : M D := match x with
  | .ptr n => fun s => match s[n]? with
    | some (.dT kvs) => .ok (.vls (kvs.map fun kv => .tup (kv.1.map keyD))) s
    | _ => .stuck
  | _ => stuck
theorem keyD_rep {K : PySem.W.Frag} {μ : Mu} {H : Hp} : ∀ ks : List L2.Key, RepL K μ H (ks.map kV) (ks.map keyD)
  | [] => .nil
  | .inl i :: ks => .cons (.int i) (keyD_rep ks)
  | .inr x :: ks => .cons (.str x) (keyD_rep ks)
theorem isKeys_rep {K : PySem.W.Frag} {μ : Mu} {H : Hp} : ∀ {xs : List (List L2.Key × V)} {kvs : List (List L2.Key × D)} {bs : List Addr}, xs.map (·.1) = kvs.map (·.1) → IsKeys H xs bs → RepL K μ H (bs.map V.ref) (kvs.map fun kv => .tup (kv.1.map keyD))
  | [], [], _, _, .nil => .nil
  | [], q :: kvs, _, e, _ => by simp at e
  | x :: xs, [], _, e, _ => by simp at e
  | x :: xs, q :: kvs, b :: bs, e, .cons h t => by
    rw [List.map_cons, List.map_cons] at e
    injection e with e1 e2
    refine .cons (.tup (SqT.of h) ?_) (isKeys_rep e2 t)
    rw [e1]
    exact keyD_rep _
theorem cr_listT (hc : X.calm = true) : CallR X (.type "list") (RLof X.K E (fun1 listT)) := CallR.imp (call_list_dT hc) (rl_1 fun μ s d v H Q hs r post => by
  unfold listT at post
  cases r with
  | @ptr a n hn =>
    cases ec : s[n]? with
    | none => simp only [ec] at post; exact (show False from post).elim
    | some cl =>
      simp only [ec] at post
      cases cl with
      | dT kvs =>
        obtain ⟨xs, h1, h2⟩ := cell_dT hs hn ec
        exact ⟨a, xs, rfl, .inl h1, fun p bs hp hk => post_vls hs (isKeys_rep h2.1 hk) post p hp⟩
      | _ => exact (show False from post).elim
  | _ => exact (show False from post).elim)
end
end PL

/-! PL23: zip; targets of any shape in comprehensions; comprehensions of two parts. -/
namespace PL
open PySem PySem.Spec PyProof.Rows L2
/-! ### zip -/
def seqC (s : S) : D → Option (List D × Option (Nat × List D))
  | .flst ds => some (ds, none)
  | .vls ds => some (ds, none)
  | .ptr n => match s[n]? with
    | some (.lst ds) => some (ds, some (n, ds))
    | _ => none
  | _ => none
def zipI (xs ys : List D) : List D := List.zipWith (fun x y => .tup [x, y]) xs ys
def zipD (ds : List D) : M Src := fun s => match ds with
  | [.tup xs, .tup ys] => .ok ⟨zipI xs ys, none⟩ s
  | [x, y] => (match seqC s x, seqC s y with
    | some (xs, none), some (ys, c) => .ok ⟨zipI xs ys, c⟩ s
    | some (xs, c), some (ys, none) => .ok ⟨zipI xs ys, c⟩ s
    | _, _ => .stuck)
  | _ => .stuck
/-- a list that a walk may go along: where it stands -/
def StL (K : PySem.W.Frag) (μ : Mu) (H : Hp) (a : Addr) (xs : List V) (ds : List D) (c : Option (Nat × List D)) : Prop := ∀ μ' H' s, GrowW μ H μ' H' → SimS K μ' H' s → (match c with
  | none => True
  | some (n, es) => s[n]? = some (.lst es)) → ∃ ys, SqL K H' a ys ∧ RepL K μ' H' ys ds
theorem seqC_rep {K : PySem.W.Frag} {μ : Mu} {H : Hp} {s : S} {d : D} {v : V} {ds : List D} {c : Option (Nat × List D)} (hs : SimS K μ H s) (r : Rep K μ H v d) (e : seqC s d = some (ds, c)) : ∃ a xs, v = .ref a ∧ SqL K H a xs ∧ StL K μ H a xs ds c := by
  unfold seqC at e
  cases r with
  | @flst a xs es ht hl =>
    cases e
    exact ⟨a, xs, rfl, ht.sqL, fun μ' H' s' g hs' _ => ⟨xs, (g.frzL ht).sqL, RepL.growW g _ _ hl⟩⟩
  | @vls a xs es ht hl =>
    cases e
    exact ⟨a, xs, rfl, ht.sqL, fun μ' H' s' g hs' _ => ⟨xs, (g.vls ht).sqL, RepL.growW g _ _ hl⟩⟩
  | @ptr a n hn =>
    cases ec : s[n]? with
    | none => simp only [ec] at e; cases e
    | some cl =>
      cases cl with
      | lst es =>
        simp only [ec] at e
        cases e
        obtain ⟨xs, h1, hl⟩ := cell_lst hs hn ec
        exact ⟨a, xs, rfl, SqL.of h1, fun μ' H' s' g hs' ok => by
          obtain ⟨ys, k1, k2⟩ := cell_lst hs' (g.at hn) ok
          exact ⟨ys, SqL.of k1, k2⟩⟩
      | _ => simp only [ec] at e; cases e
  | _ => cases e
theorem StL.none {K : PySem.W.Frag} {μ : Mu} {H : Hp} {a : Addr} {xs : List V} {ds : List D} {c : Option (Nat × List D)} (h : StL K μ H a xs ds none) : StL K μ H a xs ds c := fun μ' H' s g hs _ => h μ' H' s g hs trivial
theorem zipI_get {xs ys : List D} {i : Nat} {d : D} (e : (zipI xs ys)[i]? = some d) : ∃ x y, xs[i]? = some x ∧ ys[i]? = some y ∧ d = .tup [x, y] := by
  unfold zipI at e
  rw [List.getElem?_zipWith] at e
  cases h1 : xs[i]? with
  | none => rw [h1] at e; cases e
  | some x =>
    cases h2 : ys[i]? with
    | none => rw [h1, h2] at e; cases e
    | some y =>
      rw [h1, h2] at e
      exact ⟨x, y, rfl, rfl, (Option.some.inj e).symm⟩
theorem zipI_len {xs ys : List D} : (zipI xs ys).length = min xs.length ys.length := List.length_zipWith
theorem good_zip {K : PySem.W.Frag} {μ : Mu} {H : Hp} {a b : Addr} {xs ys : List V} {ds es : List D} {c : Option (Nat × List D)} (h1 : StL K μ H a xs ds c) (h2 : StL K μ H b ys es c) : GoodIt K μ H (Itz K a b) ⟨zipI ds es, c⟩ := fun μ' H' s g hs ok => by
  obtain ⟨us, k1, l1⟩ := h1 μ' H' s g hs ok
  obtain ⟨vs, k2, l2⟩ := h2 μ' H' s g hs ok
  refine ⟨fun i d e => ?_, us, vs, k1, k2, ?_⟩
  · obtain ⟨x, y, e1, e2, rfl⟩ := zipI_get e
    obtain ⟨u, hu, ru⟩ := l1.get e1
    obtain ⟨v, hv, rv⟩ := l2.get e2
    refine ⟨⟨us, vs, u, v, k1, k2, hu, hv⟩, fun w H2 y2 => ?_⟩
    obtain ⟨T, x', y', rfl, hT, rfl, q1, q2⟩ := y2
    have e3 : u = x' := Option.some.inj (hu.symm.trans (q1 us k1))
    have e4 : v = y' := Option.some.inj (hv.symm.trans (q2 vs k2))
    subst e3 e4
    exact ⟨grow_new hT, hs.lay hT, .tup (SqT.of upd_same) (RepL.grow (grow_new hT) _ _ (.cons ru (.cons rv .nil)))⟩
  · have a1 := l1.length
    have a2 := l2.length
    show us.length ≤ (zipI ds es).length ∨ vs.length ≤ (zipI ds es).length
    rw [zipI_len]
    omega
theorem good_zipT {K : PySem.W.Frag} {μ : Mu} {H : Hp} {a b : Addr} {xs ys : List V} {ds es : List D} (h1 : SqT K H a xs) (l1 : RepL K μ H xs ds) (h2 : SqT K H b ys) (l2 : RepL K μ H ys es) : GoodIt K μ H (RZ.ItzT K a b) ⟨zipI ds es, none⟩ := fun μ' H' s g hs ok => by
  have k1 := g.sqT h1
  have k2 := g.sqT h2
  have m1 := RepL.growW g _ _ l1
  have m2 := RepL.growW g _ _ l2
  refine ⟨fun i d e => ?_, xs, ys, k1, k2, ?_⟩
  · obtain ⟨x, y, e1, e2, rfl⟩ := zipI_get e
    obtain ⟨u, hu, ru⟩ := m1.get e1
    obtain ⟨v, hv, rv⟩ := m2.get e2
    refine ⟨⟨xs, ys, u, v, k1, k2, hu, hv⟩, fun w H2 y2 => ?_⟩
    obtain ⟨T, x', y', rfl, hT, rfl, q1, q2⟩ := y2
    have e3 : u = x' := Option.some.inj (hu.symm.trans (q1 xs k1))
    have e4 : v = y' := Option.some.inj (hv.symm.trans (q2 ys k2))
    subst e3 e4
    exact ⟨grow_new hT, hs.lay hT, .tup (SqT.of upd_same) (RepL.grow (grow_new hT) _ _ (.cons ru (.cons rv .nil)))⟩
  · have a1 := l1.length
    have a2 := l2.length
    show xs.length ≤ (zipI ds es).length ∨ ys.length ≤ (zipI ds es).length
    rw [zipI_len]
    omega
section
variable {X : Cx} {E : XK} {e e2 : Expr} {mr : Env → M (List D)} {p pos tpos : Pos} {elts : List Expr} {kk : Nat}
theorem si_zip (hg : Gl X "zip") (hm : X.mg "zip" = none) (ha : SA X E [e, e2] mr) (hs0 : starEach [e, e2] X.env = (false, eval e X.env) :: starEach [e2] X.env := by rfl) (hb : ((backTo pos (starEach [e2] X.env)).any fun x => x.fst) = false := by rfl) :
    SI X E (.Tuple elts kk tpos) (.Call (.Name "zip" p) [e, e2] [] pos) (srcA zipD mr) := PI.imp (RZ.pi_zipA hg hm ha hs0 hb) (by
  rintro σ H R ⟨μ, env, s, hv, hs, post⟩
  refine ⟨μ, env, s, hv, hs, (Post.bind post).mono fun ds s1 μ1 H1 g1 hs1 p1 vs hl => ?_⟩
  unfold zipD at p1
  split at p1
  · rename_i xs ys
    obtain ⟨v, w, rfl, r, r'⟩ := repL2 hl
    cases r with
    | @tup a us _ h1 l1 =>
      cases r' with
      | @tup b ws _ h2 l2 =>
        exact ⟨a, b, us, ws, rfl, .inr ⟨h1, h2, Post.now (a := (⟨zipI xs ys, none⟩ : Src)) p1 hs1 _ (good_zipT h1 l1 h2 l2)⟩⟩
  · rename_i x y _
    obtain ⟨v, w, rfl, r, r'⟩ := repL2 hl
    split at p1
    · rename_i xs ys c e1 e3
      obtain ⟨a, us, rfl, h1, k1⟩ := seqC_rep hs1 r e1
      obtain ⟨b, ws, rfl, h2, k2⟩ := seqC_rep hs1 r' e3
      exact ⟨a, b, us, ws, rfl, .inl ⟨h1, h2, Post.now (a := (⟨zipI xs ys, c⟩ : Src)) p1 hs1 _ (good_zip k1.none k2)⟩⟩
    · rename_i xs c ys _ e1 e3
      obtain ⟨a, us, rfl, h1, k1⟩ := seqC_rep hs1 r e1
      obtain ⟨b, ws, rfl, h2, k2⟩ := seqC_rep hs1 r' e3
      exact ⟨a, b, us, ws, rfl, .inl ⟨h1, h2, Post.now (a := (⟨zipI xs ys, c⟩ : Src)) p1 hs1 _ (good_zip k1 k2.none)⟩⟩
    · exact (show False from p1).elim
  · exact (show False from p1).elim)
end
/-! ### targets of any shape -/
section
variable {K : PySem.W.Frag} {E : XK}
def GtG (K : PySem.W.Frag) (E : XK) (g : D → Env → M Env) (gt : TG) (vs : List Nat) : Prop := ∀ v σ0 σ H Q, wipe σ vs = wipe σ0 vs → (∃ μ env s d, SimV K μ H σ env ∧ SimS K μ H s ∧ Rep K μ H v d ∧ Post K E μ H (g d env s) (fun env' _ μ' H' => ∀ σ', SimV K μ' H' σ' env' → wipe σ' vs = wipe σ0 vs → Q σ' H')) → gt v σ H Q
def GtsG (K : PySem.W.Frag) (E : XK) (g : List D → Env → M Env) (gt : TGs) (vs : List Nat) : Prop := ∀ v σ0 σ H Q, wipe σ vs = wipe σ0 vs → (∃ μ env s d, SimV K μ H σ env ∧ SimS K μ H s ∧ RepL K μ H v d ∧ Post K E μ H (g d env s) (fun env' _ μ' H' => ∀ σ', SimV K μ' H' σ' env' → wipe σ' vs = wipe σ0 vs → Q σ' H')) → gt v σ H Q
theorem gt_of {g : D → Env → M Env} {gt : TG} {vs : List Nat} (h : GtG K E g gt vs) : GtOk K E g gt vs := by
  rintro v σ H Qg ⟨μ, env, s, d, hv, hs, r, post⟩
  exact h v σ (wipe σ vs) H _ (wipe_wipe σ vs) ⟨μ, env, s, d, hv, hs, r, post.mono fun env' s' μ' H' _ _ p σ' hv' hw => ⟨hw, p σ' hv'⟩⟩
theorem gg_name {i : Nat} {vs : List Nat} (hi : i ∈ vs) : GtG K E (gNm i) (gName i) vs := by
  rintro v σ0 σ H Qg hw ⟨μ, env, s, d, hv, hs, r, post⟩
  refine Post.now (a := env.set i (some d)) post hs _ (hv.set r i) (Eq.trans ?_ hw)
  exact wipe_same (by rw [List.length_set]) fun j hj => by
    rw [List.getElem?_set_ne (show i ≠ j from fun z => hj (z ▸ hi))]
theorem gg_nil {vs : List Nat} : GtsG K E gNilM gNil vs := by
  rintro v σ0 σ H Qg hw ⟨μ, env, s, ds, hv, hs, r, post⟩
  cases r with
  | nil => exact ⟨rfl, Post.now (a := env) post hs _ hv hw⟩
  | cons _ _ => exact (show False from post).elim
theorem gg_cons {g : D → Env → M Env} {gs : List D → Env → M Env} {gt : TG} {gts : TGs} {vs : List Nat} (h1 : GtG K E g gt vs) (h2 : GtsG K E gs gts vs) : GtsG K E (gConsM g gs) (gCons gt gts) vs := by
  rintro v σ0 σ H Qg hw ⟨μ, env, s, ds, hv, hs, r, post⟩
  cases r with
  | nil => exact (show False from post).elim
  | @cons v vs' d ds r1 r2 =>
    refine ⟨v, vs', rfl, h1 v σ0 σ H _ hw ⟨μ, env, s, d, hv, hs, r1, (Post.bind post).mono fun env1 s1 μ1 H1 g1 hs1 p1 σ1 hv1 hw1 => ?_⟩⟩
    exact h2 vs' σ0 σ1 H1 Qg hw1 ⟨μ1, env1, s1, ds, hv1, hs1, RepL.grow g1 _ _ r2, p1⟩
theorem gg_tup {n : Nat} {gs : List D → Env → M Env} {gts : TGs} {vs : List Nat} (h : GtsG K E gs gts vs) : GtG K E (gTupM n gs) (gTup K n gts) vs := by
  rintro v σ0 σ H Qg hw ⟨μ, env, s, d, hv, hs, r, post⟩
  cases r with
  | @tup a xs ds ht hl =>
    unfold gTupM at post
    simp only [] at post
    split at post
    · rename_i hn
      exact ⟨a, xs, rfl, ht, hl.length.trans hn, h xs σ0 σ H Qg hw ⟨μ, env, s, ds, hv, hs, hl, post⟩⟩
    · exact (show False from post).elim
  | _ => exact (show False from post).elim
end
end PL

/-! PL24: comprehensions of two parts. -/
namespace PL
open PySem PySem.Spec PyProof.Rows L2
def sz4M (n : Nat) : M Unit := if n ≤ 4000 then Pure.pure () else stuck
noncomputable def coll2M (r : Src) (g : D → Env → M Env) (t : Env → M Bool) (mi1 : Env → M Src) (g1 : D → Env → M Env) (t1 : Env → M Bool) (e : Env → M D) (vs1 : List Nat) (env0 : Env) : List D → M (List D)
  | [] => guardM r >>= fun _ => Pure.pure []
  | d :: ds => guardM r >>= fun _ => g d env0 >>= fun env => t env >>= fun b => if b then mi1 env >>= fun r1 => sz4M r1.items.length >>= fun _ => collM r1 g1 t1 e (wipeE env vs1) r1.items >>= fun xs => coll2M r g t mi1 g1 t1 e vs1 env0 ds >>= fun ys => Pure.pure (xs ++ ys) else coll2M r g t mi1 g1 t1 e vs1 env0 ds
/-- [e for g in r if t for g1 in r1 if t1] -/
noncomputable def comp2F (mi : Env → M Src) (g : D → Env → M Env) (t : Env → M Bool) (mi1 : Env → M Src) (g1 : D → Env → M Env) (t1 : Env → M Bool) (e : Env → M D) (vs vs1 : List Nat) (env : Env) : M D :=
  mi env >>= fun r => sz4M r.items.length >>= fun _ => coll2M r g t mi1 g1 t1 e vs1 (wipeE env vs) r.items >>= fun ys => fun s => .ok (.vls ys) s
theorem growW_hid {μ : Mu} {H : Hp} {p : Addr} {xs ys : List V} (hp : p ∈ μ.h) (e : H p = some (.lst xs)) : GrowW μ H μ (upd H p (.lst ys)) :=
  ⟨⟨[], (List.append_nil _).symm⟩, ⟨[], rfl, fun _ h => nomatch h⟩, fun a zs q => by
    rw [upd_ne fun z => by rw [z, e] at q; cases q]
    exact q, fun a o u q => by
    rw [upd_ne fun z => by rw [z, e] at q; cases q]
    exact q, fun a o q _ n => by
    rw [upd_ne fun z => n (by rw [z]; exact hp)]
    exact q, fun a h => .inl h, upd_trk⟩
section
variable {K : PySem.W.Frag} {E : XK}
theorem sz4_ok {α : Type} {n : Nat} {f : Unit → M α} {s : S} {μ : Mu} {H : Hp} {q : α → S → Mu → Hp → Prop} (h : Post K E μ H ((sz4M n >>= f) s) q) : n ≤ 4000 ∧ Post K E μ H (f () s) q := by
  unfold sz4M at h
  by_cases hl : n ≤ 4000
  · rw [if_pos hl] at h
    exact ⟨hl, h⟩
  · rw [if_neg hl] at h
    exact (show False from h).elim
theorem lc2_ok {r : Src} {J : It} {g g1 : D → Env → M Env} {gt gt1 : TG} {t t1 : Env → M Bool} {mi1 : Env → M Src} {e : Env → M D} {fin : List D → M D} {σ : L2.St} {env : Env} {vs vs1 : List Nat} {μ : Mu} {H1 : Hp} {s1 : S} {Q : VK} {Dl : Addr}
    (hv : SimV K μ H1 σ env) (hs : SimS K μ H1 s1) (hJ : GoodIt K μ H1 J r) (hlen : r.items.length ≤ 4000) (hDn : H1 Dl = none)
    (hg : GtOk K E g gt vs) (hg1 : GtOk K E g1 gt1 vs1)
    (hfin : ∀ (c u : List Addr) (H : Hp) (s : S) (acc : List D) (xs : List V), Grow μ H1 ⟨c, u ++ μ.h⟩ H → Dl ∉ u ++ μ.h → SimS K ⟨c, u ++ Dl :: μ.h⟩ H s → H Dl = some (.lst xs) → RepL K ⟨c, u ++ Dl :: μ.h⟩ H xs acc → Post K E μ H1 (fin acc s) (okD K Q) → Q (.ref Dl) H)
    (post : Post K E μ H1 ((coll2M r g t mi1 g1 t1 e vs1 (wipeE env vs) r.items >>= fin) s1) (okD K Q)) :
    ∃ W : Nat → Nat → Hp → Prop, (∃ m, W 0 m (upd H1 Dl (.lst []))) ∧ ∀ i m H, W i m H →
      (J.stop i H ∧ Q (.ref Dl) H) ∨ (J.go i H ∧ ∃ Nx : Hp → Prop, (∀ H', Nx H' → ∃ m', m' < m ∧ W (i + 1) m' H') ∧ ∀ x H', J.yld i H x H' → gt x (wipe σ vs) H' fun σ2 H2 => wipe σ2 vs = wipe σ vs ∧ TTof K E t σ2 H2 fun b H3 =>
        if b = true then TIof K E mi1 σ2 H3 fun J1 H4 => ∃ W1 : Nat → Nat → Hp → Prop, (∃ m, W1 0 m H4) ∧ ∀ j k H, W1 j k H →
          (J1.stop j H ∧ Nx H) ∨ (J1.go j H ∧ ∃ Nx1 : Hp → Prop, (∀ H', Nx1 H' → ∃ k', k' < k ∧ W1 (j + 1) k' H') ∧ ∀ x H', J1.yld j H x H' → gt1 x (wipe σ2 vs1) H' fun σ3 H5 => wipe σ3 vs1 = wipe σ2 vs1 ∧ TTof K E t1 σ3 H5 fun b H6 =>
            if b = true then TEof K E e σ3 H6 fun y H7 => ∃ acc, H7 Dl = some (.lst acc) ∧ acc.length < sizeLine ∧ Nx1 (upd H7 Dl (.lst (acc ++ [y]))) else Nx1 H6)
        else Nx H3) := by
  have nD := hs.new hDn
  let Up : Mu → Hp → Prop := fun μ' H => Grow μ H1 μ' H ∧ ∃ u, μ'.h = u ++ Dl :: μ.h ∧ Dl ∉ u ∧ ∀ p ∈ u, H1 p = none
  have inh : ∀ {μ' : Mu} {H : Hp}, Up μ' H → Dl ∈ μ'.h := fun ⟨_, u, hu, _⟩ => by
    rw [hu]
    exact List.mem_append_right _ List.mem_cons_self
  have up : ∀ {μ1 μ2 : Mu} {Ha Hb : Hp} {xs : List V} {sb : S}, Up μ1 Ha → Grow μ1 Ha μ2 Hb → SimS K μ2 Hb sb → Ha Dl = some (.lst xs) → Up μ2 Hb ∧ Hb Dl = some (.lst xs) := fun {μ1 μ2 Ha Hb xs sb} U g2 hb h => by
    have h1 := inh U
    obtain ⟨g1, u, hu, nu, ku⟩ := U
    obtain ⟨v, hv2, kv⟩ := g2.hid
    refine ⟨⟨g1.trans g2, v ++ u, by rw [hv2, hu, List.append_assoc], fun z => ?_, fun p hp => ?_⟩, g2.frm Dl _ h (hb.dis Dl (by rw [hv2]; exact List.mem_append_right _ h1))⟩
    · rcases List.mem_append.mp z with z | z
      · have := kv Dl z
        rw [h] at this
        cases this
      · exact nu z
    · rcases List.mem_append.mp hp with hp | hp
      · exact g1.trk p (kv p hp)
      · exact ku p hp
  have bump : ∀ {μ' : Mu} {H : Hp} {xs ys : List V}, Up μ' H → H Dl = some (.lst xs) → Up μ' (upd H Dl (.lst ys)) := fun {μ' H xs ys} U h => by
    obtain ⟨g1, r⟩ := U
    refine ⟨?_, r⟩
    have ne : ∀ {a : Addr} {o : HO}, H1 a = some o → a ≠ Dl := fun {a o} h1 z => by
      rw [z, hDn] at h1
      cases h1
    exact ⟨g1.pre, g1.hid, fun a o h1 => by rw [upd_ne (ne h1)]; exact g1.tup a o h1, fun a o u h1 => by rw [upd_ne (ne h1)]; exact g1.frz a o u h1, fun a o h1 n => by rw [upd_ne (ne h1)]; exact g1.frm a o h1 n, g1.new, fun a h1 => g1.trk a (upd_trk a h1)⟩
  let Tn : Nat → Hp → Prop := fun i H => ∃ μ' s' acc xs, Up μ' H ∧ SimS K μ' H s' ∧ H Dl = some (.lst xs) ∧ RepL K μ' H xs acc ∧ acc.length ≤ i * 4000 ∧ i ≤ r.items.length ∧
    Post K E μ H1 ((coll2M r g t mi1 g1 t1 e vs1 (wipeE env vs) (r.items.drop i) >>= fun ys => fin (acc ++ ys)) s') (okD K Q)
  have post0 : Post K E μ H1 ((coll2M r g t mi1 g1 t1 e vs1 (wipeE env vs) (r.items.drop 0) >>= fun ys => fin ([] ++ ys)) s1) (okD K Q) := post
  refine ⟨fun i m H => m = r.items.length - i ∧ Tn i H, ⟨r.items.length - 0, rfl, μ.hide Dl, s1, [], [], ⟨grow_hide hDn, [], rfl, List.not_mem_nil, fun _ h => nomatch h⟩, hs.hide hDn, upd_same, .nil, Nat.zero_le _, Nat.zero_le _, post0⟩, ?_⟩
  rintro i m H ⟨rfl, μ', s', acc, xs, U1, hs', hD, hacc, hli, hile, p⟩
  by_cases hi : i < r.items.length
  · right
    obtain ⟨d, hd⟩ : ∃ d, r.items[i]? = some d := ⟨_, List.getElem?_eq_getElem hi⟩
    have ed : r.items.drop i = d :: r.items.drop (i + 1) := by
      rw [List.drop_eq_getElem_cons hi]
      rw [List.getElem?_eq_getElem hi] at hd
      cases hd
      rfl
    rw [ed] at p
    -- what comes behind the inner walk
    let rest : M (List D) := coll2M r g t mi1 g1 t1 e vs1 (wipeE env vs) (r.items.drop (i + 1))
    have e1 : (coll2M r g t mi1 g1 t1 e vs1 (wipeE env vs) (d :: r.items.drop (i + 1)) >>= fun ys => fin (acc ++ ys)) = (guardM r >>= fun _ => g d (wipeE env vs) >>= fun env2 => t env2 >>= fun b => if b then mi1 env2 >>= fun r1 => sz4M r1.items.length >>= fun _ => collM r1 g1 t1 e (wipeE env2 vs1) r1.items >>= fun zs => rest >>= fun ys => fin (acc ++ (zs ++ ys)) else (rest >>= fun ys => fin (acc ++ ys))) := by
      show ((guardM r >>= fun _ => g d (wipeE env vs) >>= fun env2 => t env2 >>= fun b => if b then mi1 env2 >>= fun r1 => sz4M r1.items.length >>= fun _ => collM r1 g1 t1 e (wipeE env2 vs1) r1.items >>= fun zs => rest >>= fun ys => (Pure.pure (zs ++ ys) : M (List D)) else rest) >>= fun ys => fin (acc ++ ys)) = _
      rw [m_assoc]
      refine m_congr fun _ => ?_
      rw [m_assoc]
      refine m_congr fun env2 => ?_
      rw [m_assoc]
      refine m_congr fun b => ?_
      cases b with
      | true =>
        show ((mi1 env2 >>= fun r1 => sz4M r1.items.length >>= fun _ => collM r1 g1 t1 e (wipeE env2 vs1) r1.items >>= fun zs => rest >>= fun ys => (Pure.pure (zs ++ ys) : M (List D))) >>= _) = (mi1 env2 >>= fun r1 => sz4M r1.items.length >>= fun _ => collM r1 g1 t1 e (wipeE env2 vs1) r1.items >>= fun zs => rest >>= fun ys => fin (acc ++ (zs ++ ys)))
        rw [m_assoc]
        refine m_congr fun r1 => ?_
        rw [m_assoc]
        refine m_congr fun _ => ?_
        rw [m_assoc]
        refine m_congr fun zs => ?_
        rw [m_assoc]
        exact m_congr fun ys => rfl
      | false => rfl
    rw [e1] at p
    obtain ⟨ok, p2⟩ := guard_ok p
    clear p e1
    obtain ⟨go, yl⟩ := (hJ μ' H s' U1.1.w hs' ok).1 i d hd
    refine ⟨go, fun H' => Tn (i + 1) H', fun H' q => ⟨r.items.length - (i + 1), by omega, rfl, q⟩, fun x H' y => ?_⟩
    obtain ⟨g2, hs2, rx⟩ := yl x H' y
    obtain ⟨U2, hD2⟩ := up U1 g2 hs2 hD
    refine hg x σ H' _ ⟨μ', wipeE env vs, s', d, (hv.grow U2.1).wipe vs, hs2, rx, (Post.bindB p2 U2.1).mono fun env2 s2 μ3 H3 g3 hs3 p3 σ2 hv2 => ?_⟩
    obtain ⟨U3, hD3⟩ := up U2 g3 hs3 hD2
    refine ⟨μ3, env2, s2, hv2, hs3, (Post.bindB p3 U3.1).mono fun b s4 μ4 H4 g4 hs4 p4 => ?_⟩
    obtain ⟨U4, hD4⟩ := up U3 g4 hs4 hD3
    show if b = true then _ else _
    cases b with
    | false => exact ⟨μ4, s4, acc, xs, U4, hs4, hD4, RepL.grow (g2.trans (g3.trans g4)) _ _ hacc, by omega, hi, p4⟩
    | true =>
      refine ⟨μ4, env2, s4, hv2.grow g4, hs4, (Post.bindB p4 U4.1).mono fun r1 s5 μ5 H5 g5 hs5 p5 J1 hJ1 => ?_⟩
      obtain ⟨U5, hD5⟩ := up U4 g5 hs5 hD4
      have hacc5 := RepL.grow (g2.trans (g3.trans (g4.trans g5))) _ _ hacc
      have hv5 := (hv2.grow g4).grow g5
      obtain ⟨hl1, p6⟩ := sz4_ok p5
      clear p5
      let Tm : Nat → Hp → Prop := fun j H => ∃ μ' s' acc1 xs1, Up μ' H ∧ GrowW μ5 H5 μ' H ∧ SimS K μ' H s' ∧ H Dl = some (.lst xs1) ∧ RepL K μ' H xs1 acc1 ∧ acc1.length ≤ i * 4000 + j ∧ j ≤ r1.items.length ∧
        Post K E μ H1 ((collM r1 g1 t1 e (wipeE env2 vs1) (r1.items.drop j) >>= fun zs => rest >>= fun ys => fin (acc1 ++ (zs ++ ys))) s') (okD K Q)
      refine ⟨fun j k H => k = r1.items.length - j ∧ Tm j H, ⟨r1.items.length - 0, rfl, μ5, s5, acc, xs, U5, (Grow.refl μ5 H5).w, hs5, hD5, hacc5, by omega, Nat.zero_le _, p6⟩, ?_⟩
      rintro j k Hj ⟨rfl, ν, sj, acc1, xs1, V1, gw, hsj, hDj, haccj, hlj, hjle, pj⟩
      by_cases hj : j < r1.items.length
      · right
        obtain ⟨d1, hd1⟩ : ∃ d, r1.items[j]? = some d := ⟨_, List.getElem?_eq_getElem hj⟩
        have ed1 : r1.items.drop j = d1 :: r1.items.drop (j + 1) := by
          rw [List.drop_eq_getElem_cons hj]
          rw [List.getElem?_eq_getElem hj] at hd1
          cases hd1
          rfl
        rw [ed1] at pj
        let fin1 : List D → List D → M D := fun ac zs => rest >>= fun ys => fin (ac ++ (zs ++ ys))
        have e2 : (collM r1 g1 t1 e (wipeE env2 vs1) (d1 :: r1.items.drop (j + 1)) >>= fun zs => rest >>= fun ys => fin (acc1 ++ (zs ++ ys))) = (guardM r1 >>= fun _ => g1 d1 (wipeE env2 vs1) >>= fun env3 => t1 env3 >>= fun b => if b then e env3 >>= fun y => collM r1 g1 t1 e (wipeE env2 vs1) (r1.items.drop (j + 1)) >>= fun zs => rest >>= fun ys => fin (acc1 ++ ((y :: zs) ++ ys)) else (collM r1 g1 t1 e (wipeE env2 vs1) (r1.items.drop (j + 1)) >>= fun zs => rest >>= fun ys => fin (acc1 ++ (zs ++ ys)))) := by
          show ((guardM r1 >>= fun _ => g1 d1 (wipeE env2 vs1) >>= fun env3 => t1 env3 >>= fun b => if b then e env3 >>= fun y => collM r1 g1 t1 e (wipeE env2 vs1) (r1.items.drop (j + 1)) >>= fun ys => (Pure.pure (y :: ys) : M (List D)) else collM r1 g1 t1 e (wipeE env2 vs1) (r1.items.drop (j + 1))) >>= fun zs => rest >>= fun ys => fin (acc1 ++ (zs ++ ys))) = _
          rw [m_assoc]
          refine m_congr fun _ => ?_
          rw [m_assoc]
          refine m_congr fun env3 => ?_
          rw [m_assoc]
          refine m_congr fun b => ?_
          cases b with
          | true =>
            show ((e env3 >>= fun y => collM r1 g1 t1 e (wipeE env2 vs1) (r1.items.drop (j + 1)) >>= fun ys => (Pure.pure (y :: ys) : M (List D))) >>= _) = (e env3 >>= fun y => collM r1 g1 t1 e (wipeE env2 vs1) (r1.items.drop (j + 1)) >>= fun zs => rest >>= fun ys => fin (acc1 ++ ((y :: zs) ++ ys)))
            rw [m_assoc]
            refine m_congr fun y => ?_
            rw [m_assoc]
            exact m_congr fun ys => rfl
          | false => rfl
        rw [e2] at pj
        obtain ⟨ok1, q2⟩ := guard_ok pj
        clear pj e2
        obtain ⟨go1, yl1⟩ := (hJ1 ν Hj sj gw hsj ok1).1 j d1 hd1
        refine ⟨go1, fun H' => Tm (j + 1) H', fun H' q => ⟨r1.items.length - (j + 1), by omega, rfl, q⟩, fun x1 H6 y1 => ?_⟩
        obtain ⟨g6, hs6, rx1⟩ := yl1 x1 H6 y1
        obtain ⟨V2, hD6⟩ := up V1 g6 hs6 hDj
        have hv6 : SimV K ν H6 σ2 env2 := ⟨hv5.len, fun i d e => by
          obtain ⟨v, h1, h2⟩ := hv5.val i d e
          exact ⟨v, h1, Rep.growW (gw.trans g6.w) d v h2⟩⟩
        refine hg1 x1 σ2 H6 _ ⟨ν, wipeE env2 vs1, sj, d1, hv6.wipe vs1, hs6, rx1, (Post.bindB q2 V2.1).mono fun env3 s7 μ7 H7 g7 hs7 q3 σ3 hv7 => ?_⟩
        obtain ⟨V3, hD7⟩ := up V2 g7 hs7 hD6
        refine ⟨μ7, env3, s7, hv7, hs7, (Post.bindB q3 V3.1).mono fun b s8 μ8 H8 g8 hs8 q4 => ?_⟩
        obtain ⟨V4, hD8⟩ := up V3 g8 hs8 hD7
        have gw8 := gw.trans (g6.trans (g7.trans g8)).w
        show if b = true then _ else _
        cases b with
        | false => exact ⟨μ8, s8, acc1, xs1, V4, gw8, hs8, hD8, RepL.grow (g6.trans (g7.trans g8)) _ _ haccj, by omega, hj, q4⟩
        | true =>
          refine ⟨μ8, env3, s8, hv7.grow g8, hs8, (Post.bindB q4 V4.1).mono fun y s9 μ9 H9 g9 hs9 q5 v hy => ?_⟩
          obtain ⟨V5, hD9⟩ := up V4 g9 hs9 hD8
          have hacc9 := RepL.grow (g6.trans (g7.trans (g8.trans g9))) _ _ haccj
          have hb : i * 4000 + j < 16777216 := by
            have : i * 4000 ≤ 4000 * 4000 := Nat.mul_le_mul (by omega) (Nat.le_refl _)
            omega
          refine ⟨xs1, hD9, Nat.lt_of_le_of_lt (by rw [hacc9.length]; exact hlj) (Nat.lt_of_lt_of_le hb (by decide)), μ9, s9, acc1 ++ [y], xs1 ++ [v], bump V5 hD9, (gw8.trans g9.w).trans (growW_hid (inh V5) hD9), hs9.aside (inh V5) hD9, upd_same, ?_, by rw [List.length_append, List.length_singleton]; omega, hj, ?_⟩
          · exact RepL.heap (hq_hid (inh V5) hD9) _ _ (hacc9.append (.cons hy .nil))
          · refine cast ?_ q5
            congr 1
            refine congrArg (fun z : M D => z s9) (m_congr fun zs => m_congr fun ys => ?_)
            rw [List.append_assoc]
            rfl
      · left
        have ej : j = r1.items.length := by omega
        subst ej
        rw [List.drop_length] at pj
        have e2 : (collM r1 g1 t1 e (wipeE env2 vs1) [] >>= fun zs => rest >>= fun ys => fin (acc1 ++ (zs ++ ys))) = (guardM r1 >>= fun _ => rest >>= fun ys => fin (acc1 ++ ys)) := by
          show ((guardM r1 >>= fun _ => (Pure.pure [] : M (List D))) >>= fun zs => rest >>= fun ys => fin (acc1 ++ (zs ++ ys))) = _
          rw [m_assoc]
          exact m_congr fun _ => rfl
        rw [e2] at pj
        obtain ⟨ok1, q2⟩ := guard_ok pj
        exact ⟨(hJ1 ν Hj sj gw hsj ok1).2, ν, sj, acc1, xs1, V1, hsj, hDj, haccj, by omega, hi, q2⟩
  · left
    have ei : i = r.items.length := by omega
    subst ei
    rw [List.drop_length] at p
    have e1 : (coll2M r g t mi1 g1 t1 e vs1 (wipeE env vs) [] >>= fun ys => fin (acc ++ ys)) = (guardM r >>= fun _ => fin acc) := by
      show ((guardM r >>= fun _ => (Pure.pure [] : M (List D))) >>= fun ys => fin (acc ++ ys)) = _
      rw [m_assoc]
      refine m_congr fun _ => ?_
      show fin (acc ++ []) = _
      rw [List.append_nil]
    rw [e1] at p
    obtain ⟨ok, p2⟩ := guard_ok p
    refine ⟨(hJ μ' H s' U1.1.w hs' ok).2, ?_⟩
    obtain ⟨g1, u, hu, nu, ku⟩ := U1
    obtain ⟨c, h⟩ := μ'
    simp only [] at hu
    subst hu
    refine hfin c u H s' acc xs ⟨g1.pre, ⟨u, rfl, ku⟩, g1.tup, g1.frz, g1.frm, g1.new, g1.trk⟩ (fun z => ?_) hs' hD hacc p2
    rcases List.mem_append.mp z with z | z
    · exact nu z
    · exact nD.2 z
end
section
variable {X : Cx} {E : XK} {elt tg iter tg1 iter1 : Expr} {ifs ifs1 : List Expr} {scope : Scope} {pos : Pos} {mi mi1 : Env → M Src} {t t1 : Env → M Bool} {e : Env → M D} {g g1 : D → Env → M Env} {gt gt1 : TG} {own : List (Str × Nat)} {vs1 : List Nat}
theorem te_comp2F {K : PySem.W.Frag} {vs : List Nat} (hg : GtOk K E g gt vs) (hg1 : GtOk K E g1 gt1 vs1) : ∀ σ H Q, TEof K E (comp2F mi g t mi1 g1 t1 e vs vs1) σ H Q → tLc2 (TIof K E mi) gt (TTof K E t) (TIof K E mi1) gt1 (TTof K E t1) (TEof K E e) vs vs1 σ H Q := by
  rintro σ H Q ⟨μ, env, s, hv, hs, post⟩
  refine ⟨μ, env, s, hv, hs, (Post.bind post).mono fun r s1 μ1 H1 g2 hs1 p1 J hJ Dl hD => ?_⟩
  obtain ⟨hl, p2⟩ := sz4_ok p1
  exact lc2_ok (hv.grow g2) hs1 hJ hl hD hg hg1 fin_vls p2
theorem se_comp2F (hc : X.calm = true) (hN : X.N.Nodup) (hi : SI X E tg iter mi) (ok : BlkOk X.N X.env.scope scope own) (hvs : ∀ i ∈ vs1, i ∈ own.map (·.2)) (hgt : GtOk X.K E g gt (own.map (·.2))) (hgt1 : GtOk X.K E g1 gt1 vs1)
    (hg : ∀ (s : Shared) (H : Hp) (C : Addr) (cl : List (Str × Addr)) (fp : List Addr), PG (X.blk s H scope (compEnvC scope cl C X.env) fp) tg gt) (ht : ∀ (s : Shared) (H : Hp) (C : Addr) (cl : List (Str × Addr)) (fp : List Addr), STs (X.blk s H scope (compEnvC scope cl C X.env) fp) E ifs t)
    (hi1 : ∀ (s : Shared) (H : Hp) (C : Addr) (cl : List (Str × Addr)) (fp : List Addr), SI (X.blk s H scope (compEnvC scope cl C X.env) fp) E tg1 iter1 mi1)
    (hg1 : ∀ (s : Shared) (H : Hp) (C : Addr) (cl : List (Str × Addr)) (fp : List Addr), PG (X.blk s H scope (compEnvC scope cl C X.env) fp) tg1 gt1) (ht1 : ∀ (s : Shared) (H : Hp) (C : Addr) (cl : List (Str × Addr)) (fp : List Addr), STs (X.blk s H scope (compEnvC scope cl C X.env) fp) E ifs1 t1)
    (he : ∀ (s : Shared) (H : Hp) (C : Addr) (cl : List (Str × Addr)) (fp : List Addr), SE (X.blk s H scope (compEnvC scope cl C X.env) fp) E elt e) (hs : ∀ x, foldedSetIterable iter X.env x = pure x := by intro _; rfl) (hs1 : ∀ env x, foldedSetIterable iter1 env x = pure x := by intro _ _; rfl) :
    SE X E (.ListComp elt [⟨tg, iter, ifs, 0⟩, ⟨tg1, iter1, ifs1, 0⟩] scope pos) (comp2F mi g t mi1 g1 t1 e (own.map (·.2)) vs1) := PE.imp (pe_lc2 (wi1 := TIof X.K E mi1) (g1 := gt1) (tt := TTof X.K E t) (tt1 := TTof X.K E t1) (te := TEof X.K E e) hc hN hi ok hvs hg ht hi1 hg1 ht1 he hs hs1) (te_comp2F hgt hgt1)
end
end PL

/-! PL25: math.lcm of four integers. -/
namespace PL
open PySem PySem.Spec PyProof.Rows L2
theorem lcm_args (a b c d : Value) : argsOk "math.lcm" { pos := [a, b, c, d] } := Eq.refl _
theorem room_ok {l : Nat} (h : l < 2 ^ 8000) : ¬ (l.log2 / 30 + 1 > 450) := fun g => by
  by_cases h0 : l = 0
  · subst h0
    revert g
    decide
  · have : l.log2 < 8000 := (Nat.log2_lt h0).mpr h
    omega
def lcm4 (a b c d : Int) : Nat := (((Nat.lcm 1 a.natAbs).lcm b.natAbs).lcm c.natAbs).lcm d.natAbs
theorem lcm4_gives {a b c d : Int} {t u v w : Tok} (ha : a.natAbs < 2 ^ 1000) (hb : b.natAbs < 2 ^ 1000) (hc : c.natAbs < 2 ^ 1000) (hd : d.natAbs < 2 ^ 1000) : Gives (Builtin.«math.lcm» { pos := [.int a t, .int b u, .int c v, .int d w] }) (Made.int (lcm4 a b c d : Nat)) := Gives.of_wp fun M A E s Q h => by
  have k1 : Nat.lcm 1 a.natAbs < 2 ^ 1000 := by rw [PySem.W.mc_lcm_one]; exact ha
  have mul : ∀ {x y m n : Nat}, x < 2 ^ m → y < 2 ^ n → x.lcm y < 2 ^ (m + n) := fun {x y m n} hx hy => by
    refine Nat.lt_of_le_of_lt (PySem.W.mc_lcm_le x y) ?_
    rw [Nat.pow_add]
    by_cases h0 : x = 0
    · rw [h0, Nat.zero_mul]
      exact Nat.mul_pos (Nat.pow_pos (by decide)) (Nat.pow_pos (by decide))
    · exact Nat.mul_lt_mul'' hx hy
  have k2 : (Nat.lcm 1 a.natAbs).lcm b.natAbs < 2 ^ (1000 + 1000) := mul k1 hb
  have k3 := mul k2 hc
  have k4 := mul k3 hd
  have up : ∀ {x m : Nat}, x < 2 ^ m → m ≤ 8000 → x < 2 ^ 8000 := fun {x m} hx hm => Nat.lt_of_lt_of_le hx (Nat.pow_le_pow_right (by decide) hm)
  have mx : ∀ {x y : Nat}, x < 2 ^ 8000 → y < 2 ^ 8000 → max x y < 2 ^ 8000 := fun {x y} hx hy => Nat.max_lt.mpr ⟨hx, hy⟩
  have st : ∀ (l : Nat) (i : Int) (z : Tok) {R : ForInStep Nat → Shared → Prop} {s : Shared}, l < 2 ^ 8000 → i.natAbs < 2 ^ 8000 → R (.yield (l.lcm i.natAbs)) s → wpAny M A (do
      let x ← Builtin.Math.mathIndex (.int i z)
      let x : Nat := x.natAbs
      Builtin.roomForPylongsInverse (max l x)
      Pure.pure (ForInStep.yield (l.lcm x))) R E s := fun l i z R s hl hi hr => by
    refine wpAny_bind (wpAny_pure ?_)
    refine wpAny_bind ?_
    unfold Builtin.roomForPylongsInverse
    rw [if_neg (room_ok (mx hl hi))]
    exact wpAny_pure (wpAny_pure hr)
  unfold Builtin.«math.lcm»
  refine wpAny_bind (wpAny_pure ?_)
  refine wpAny_bind ?_
  rw [List.forIn_cons]
  refine wpAny_bind (st 1 a t (by decide) (up ha (by decide)) ?_)
  show wpAny _ _ (forIn [Value.int b u, .int c v, .int d w] (Nat.lcm 1 a.natAbs) _) _ _ _
  rw [List.forIn_cons]
  refine wpAny_bind (st _ b u (up k1 (by decide)) (up hb (by decide)) ?_)
  show wpAny _ _ (forIn [Value.int c v, .int d w] ((Nat.lcm 1 a.natAbs).lcm b.natAbs) _) _ _ _
  rw [List.forIn_cons]
  refine wpAny_bind (st _ c v (up k2 (by decide)) (up hc (by decide)) ?_)
  show wpAny _ _ (forIn [Value.int d w] (((Nat.lcm 1 a.natAbs).lcm b.natAbs).lcm c.natAbs) _) _ _ _
  rw [List.forIn_cons]
  refine wpAny_bind (st _ d w (up k3 (by decide)) (up hd (by decide)) ?_)
  show wpAny _ _ (forIn ([] : List Value) (lcm4 a b c d) _) _ _ _
  rw [List.forIn_nil]
  refine wpAny_pure ?_
  show wpAny _ _ (retIntGrown (lcm4 a b c d : Nat)) _ _ _
  unfold retIntGrown mkIntGrown
  have hbits : ¬ ((lcm4 a b c d : Nat) : Int).natAbs.log2 ≥ bitsLine := fun g => by
    have e : ((lcm4 a b c d : Nat) : Int).natAbs = lcm4 a b c d := Int.natAbs_natCast _
    rw [e] at g
    by_cases h0 : lcm4 a b c d = 0
    · rw [h0] at g
      revert g
      decide
    · have h1 : (lcm4 a b c d).log2 < 1000 + 1000 + 1000 + 1000 := (Nat.log2_lt h0).mpr k4
      have h2 : bitsLine = 134217728 := by decide
      omega
  rw [if_neg hbits]
  exact wpAny_bind (wpAny_mkInt (wpAny_pure ⟨_, rfl, h⟩))
theorem wp_lcm4 {prog : Program} {wd : World} {A : Around} {E : Value → Shared → Prop} {s : Shared} {Q : Value → Shared → Prop} {a b c d : Int} {t u v w : Tok} (ha : a.natAbs < 2 ^ 1000) (hb : b.natAbs < 2 ^ 1000) (hc : c.natAbs < 2 ^ 1000) (hd : d.natAbs < 2 ^ 1000)
    (h : Q (.int (lcm4 a b c d : Nat) s.toks) { s with toks := s.toks + 1 }) : wpAny (model prog wd) A (call (.builtin "math.lcm") [.int a t, .int b u, .int c v, .int d w]) Q E s :=
  call_function_meets PySem.W.MGF.kind_lcm PySem.W.MGF.plain_lcm PySem.W.MGF.entry_lcm (lcm_args _ _ _ _) (Gives.meets (lcm4_gives ha hb hc hd)) h
/-! ### as a rule -/
def rLcm4 (vs : List V) (H : Hp) (Q : VK) : Prop := ∃ a b c d : Int, vs = [.int a, .int b, .int c, .int d] ∧ a.natAbs < 2 ^ 1000 ∧ b.natAbs < 2 ^ 1000 ∧ c.natAbs < 2 ^ 1000 ∧ d.natAbs < 2 ^ 1000 ∧ Q (.int (lcm4 a b c d : Nat)) H
theorem vals_int {i : Int} {xs : List V} {us : List Value} (h : Vals (.int i :: xs) us) : ∃ t r, us = .int i t :: r ∧ Vals xs r := by
  cases h with
  | cons a b =>
    obtain ⟨t, rfl⟩ := a
    exact ⟨t, _, rfl, b⟩
theorem cr_lcm4 {X : Cx} : CallR X (.builtin "math.lcm") rLcm4 := by
  intro pins s σ H vs us Q I r h
  obtain ⟨a, b, c, d, rfl, ha, hb, hc, hd, q⟩ := h
  obtain ⟨t, u1, rfl, r1⟩ := vals_int r
  obtain ⟨u, u2, rfl, r2⟩ := vals_int r1
  obtain ⟨v, u3, rfl, r3⟩ := vals_int r2
  obtain ⟨w, u4, rfl, r4⟩ := vals_int r3
  cases r4
  exact wp_lcm4 ha hb hc hd ⟨.int (lcm4 a b c d : Nat), H, I.tok (s.toks + 1), ⟨s.toks, rfl⟩, q⟩
def lcm4D (ds : List D) : M D := fun s => match ds with
  | [.int a, .int b, .int c, .int d] => if a.natAbs < 2 ^ 1000 ∧ b.natAbs < 2 ^ 1000 ∧ c.natAbs < 2 ^ 1000 ∧ d.natAbs < 2 ^ 1000 then .ok (.int (lcm4 a b c d : Nat)) s else .stuck
  | _ => .stuck
theorem repL_int {K : PySem.W.Frag} {μ : Mu} {H : Hp} {i : Int} {vs : List V} {ds : List D} (h : RepL K μ H vs (.int i :: ds)) : ∃ r, vs = .int i :: r ∧ RepL K μ H r ds := by
  cases h with
  | cons a b =>
    cases a
    exact ⟨_, rfl, b⟩
theorem cr_lcmD {X : Cx} {E : XK} : CallR X (.builtin "math.lcm") (RLof X.K E lcm4D) := CallR.imp cr_lcm4 (by
  rintro vs H Q ⟨μ, s, ds, hs, hl, post⟩
  unfold lcm4D at post
  split at post
  · rename_i a b c d
    split at post
    · rename_i hk
      obtain ⟨v1, rfl, r1⟩ := repL_int hl
      obtain ⟨v2, rfl, r2⟩ := repL_int r1
      obtain ⟨v3, rfl, r3⟩ := repL_int r2
      obtain ⟨v4, rfl, r4⟩ := repL_int r3
      cases r4
      exact ⟨a, b, c, d, rfl, hk.1, hk.2.1, hk.2.2.1, hk.2.2.2, post_int hs post⟩
    · exact (show False from post).elim
  · exact (show False from post).elim)
end PL

/-! PL26: xs.extend(..) by a list that is a value -/
namespace PL
open PySem PySem.Spec PyProof.Rows L2
def extendD (x : D) (as : List D) : M D := lstOf x fun n ds => match as with
  | [.vls es] => if ds.length + es.length ≤ 100000 then putC n (.lst (ds ++ es)) .non else stuck
  | _ => stuck
section
variable {X : Cx} {E : XK} {o e : Expr} {es : List Expr} {mo : Env → M D} {ma : Env → M (List D)} {apos cpos : Pos} {name : Str} {id : String}
theorem se_extend (ho : SE X E o mo) (ha : SA X E [e] ma) (hbase : attributeBase o "extend" X.env (eval o X.env) = eval o X.env := by rfl)
    (hline : (apos.endLine == cpos.line) = true := by rfl) (hs : starEach [e] X.env = (false, eval e X.env) :: starEach [] X.env := by rfl) : SE X E (.Call (.Attribute o "extend" apos) [e] [] cpos) (methM extendD mo ma) := PE.imp (pe_bm PySem.F.plainAttrs_list PySem.F.slot_list_extend PySem.F.type_list_extend mt_extend ho ha hbase (by rw [hs]; rfl) hline hs rfl) (te_meth (by
  rintro x xs H Q ⟨μ, s, dx, ds, hs, hx, hl, post⟩
  obtain ⟨a, n, es, ys, rfl, hn, ec, h1, h2, p⟩ := lstOf_rep hs hx post
  cases hl with
  | nil => exact (show False from p).elim
  | cons r t =>
    cases t with
    | nil =>
      cases r with
      | @vls b zs zd hv hz =>
        simp only [] at p
        split at p
        · rename_i hzz
          have lz := hz.length
          have ly := h2.length
          exact ⟨a, b, ys, zs, rfl, rfl, h1, hv.at_, Nat.le_of_lt (Nat.lt_of_le_of_lt (by rw [ly, lz]; exact hzz) (by decide)), put_lst hs hn h1 (h2.append hz) .non p⟩
        · exact (show False from p).elim
      | _ => exact (show False from p).elim
    | cons r' t' =>
      cases r with
      | _ => exact (show False from p).elim))
end
def extK (k : Nat) (es : List D) (s : S) : Option Cell → R D
  | some (.lst ds) => if ds.length + es.length ≤ 100000 then .ok .non (s.set k (.lst (ds ++ es))) else .stuck
  | _ => .stuck
theorem extD_run {s : S} {k : Nat} {es : List D} : extendD (.ptr k) [.vls es] s = extK k es s s[k]? := by
  unfold extendD lstOf extK
  cases e : s[k]? with
  | none => simp only [e]
  | some c =>
    cases c with
    | lst ds =>
      simp only [e]
      by_cases h : ds.length + es.length ≤ 100000
      · rw [if_pos h, if_pos h]
        rfl
      · rw [if_neg h, if_neg h]
        rfl
    | dK kvs => simp only [e]
    | dT kvs => simp only [e]
    | ins C fs => simp only [e]
    | fK kvs => simp only [e]
theorem methE_run {s : S} {mo : PL.Env → M D} {ma : PL.Env → M (List D)} {env : PL.Env} : methM extendD mo ma env s = (mo env s).on fun x s1 => (isL x s1).on fun _ s2 => (ma env s2).on fun ds s3 => extendD x ds s3 := by
  show (mo env >>= fun x => isL x >>= fun _ => ma env >>= fun ds => extendD x ds) s = _
  simp only [bind_on]
theorem extK_le {s : S} {k : Nat} {es ds : List D} (h : ds.length + es.length ≤ 100000) : extK k es s (some (.lst ds)) = .ok .non (s.set k (.lst (ds ++ es))) := if_pos h
end PL

/-! PL27: walks over a dict, which is locked meanwhile; a name set to a comprehension of two parts -/
namespace PL
open PySem PySem.Spec PyProof.Rows L2
/-- the keys of a locked dict -/
def srcK (d : D) : M Src := match d with
  | .ptr n => fun s => match s[n]? with
    | some (.fK kvs) => .ok ⟨kvs.map fun kv => keyD kv.1, none⟩ s
    | _ => .stuck
  | _ => stuck
def srcKM (m : Env → M D) (env : Env) : M Src := m env >>= srcK
theorem cell_fK {K : PySem.W.Frag} {μ : Mu} {H : Hp} {s : S} {n : Nat} {a : Addr} {ds : List (Key × D)} (hs : SimS K μ H s) (ha : μ.c[n]? = some a) (e : s[n]? = some (.fK ds)) : ∃ o xs, H a = some (.frz o (.dK xs)) ∧ RepK K μ H xs ds := by
  obtain ⟨b, hb, hc⟩ := hs.cell n _ e
  rw [ha] at hb
  cases hb
  exact hc
theorem key_rep {K : PySem.W.Frag} {μ : Mu} {H : Hp} (k : L2.Key) : Rep K μ H (kV k) (keyD k) := by
  cases k with
  | inl i => exact .int i
  | inr x => exact .str x
theorem good_keys {K : PySem.W.Frag} {μ : Mu} {H : Hp} {a : Addr} {o : Obj} {xs : List (Key × V)} {kvs : List (Key × D)} (h : H a = some (.frz o (.dK xs))) (r : RepK K μ H xs kvs) : GoodIt K μ H (Itk a o xs) ⟨kvs.map fun kv => keyD kv.1, none⟩ := fun μ' H' s g hs _ => by
  have h' := g.frz _ _ _ h
  have hl : xs.length = kvs.length := by
    have := congrArg List.length r.1
    rw [List.length_map, List.length_map] at this
    exact this
  refine ⟨fun i d e => ?_, h', by rw [List.length_map, hl]; exact Nat.le_refl _⟩
  rw [List.getElem?_map] at e
  cases ek : kvs[i]? with
  | none => rw [ek] at e; cases e
  | some kv =>
    rw [ek] at e
    cases e
    have hi : i < xs.length := by rw [hl]; exact (List.getElem?_eq_some_iff.mp ek).1
    refine ⟨⟨h', hi⟩, fun x H2 y => ?_⟩
    obtain ⟨rfl, k, v, e1, rfl⟩ := y
    have q := congrArg (fun l => l[i]?) r.1
    simp only [List.getElem?_map, e1, ek, Option.map_some] at q
    have q2 : k = kv.1 := Option.some.inj q
    subst q2
    exact ⟨Grow.refl _ _, hs, key_rep kv.1⟩
section
variable {X : Cx} {E : XK} {e tg : Expr} {ma : Env → M D}
theorem si_keys (ha : SE X E e ma) : SI X E tg e (srcKM ma) := PI.imp (pi_keys ha) (by
  rintro σ H R ⟨μ, env, s, hv, hs, post⟩
  refine ⟨μ, env, s, hv, hs, (Post.bind (show Post X.K E μ H ((ma env >>= srcK) s) _ from post)).mono fun x s1 μ1 H1 g1 hs1 p1 v hx => ?_⟩
  unfold srcK at p1
  cases hx with
  | @ptr a n hn =>
    cases ec : s1[n]? with
    | none => simp only [ec] at p1; exact (show False from p1).elim
    | some cl =>
      simp only [ec] at p1
      cases cl with
      | fK kvs =>
        obtain ⟨o, xs, h1, h2⟩ := cell_fK hs1 hn ec
        refine ⟨a, o, rfl, .inl ⟨xs, h1, ?_⟩⟩
        exact Post.now (E := E) p1 hs1 _ (good_keys h1 h2)
      | lst ds => exact (show False from p1).elim
      | dK kvs => exact (show False from p1).elim
      | dT kvs => exact (show False from p1).elim
      | ins C fs => exact (show False from p1).elim
  | _ => exact (show False from p1).elim)
end
/-! ### the lock -/
def unlD (n : Nat) (kvs : List (Key × D)) : R Out → R Out
  | .ok o s => .ok o (s.set n (.dK kvs))
  | _ => .stuck
/-- the statement runs while the dict that me gives is locked -/
def lockS (me : Env → M D) (m : Env → M Out) (env : Env) : M Out := fun s => match me env s with
  | .ok (.ptr n) _ => (match s[n]? with
    | some (.dK kvs) => unlD n kvs (m env (s.set n (.fK kvs)))
    | _ => .stuck)
  | _ => .stuck
theorem hq_unl {μ : Mu} {H : Hp} {d : Addr} {od : Obj} {xs : List (Key × V)} (hm : d ∈ μ.c) (e : H d = some (.frz od (.dK xs))) : Hq μ H (upd H d (.dK xs)) :=
  ⟨fun b zs q => by
    rw [upd_ne fun z => by rw [z, e] at q; cases q]
    exact q, fun b o u hu q => by
    rw [upd_ne fun z => by
      rw [z, e] at q
      cases q
      exact hu xs rfl]
    exact q, fun b zs q n1 n2 => by
    rw [upd_ne fun z => by rw [z, e] at q; cases q]
    exact q⟩
theorem grow_unl {μ μ' : Mu} {H H' : Hp} {d : Addr} {od : Obj} {xs : List (Key × V)} (hm : d ∈ μ.c) (hd : H d = some (.dK xs)) (g : Grow μ (upd H d (.frz od (.dK xs))) μ' H') : Grow μ H μ' (upd H' d (.dK xs)) := by
  have hm' : d ∈ μ'.c := by
    obtain ⟨t, ht⟩ := g.pre
    rw [ht]
    exact List.mem_append_left _ hm
  refine ⟨g.pre, ?_, fun a zs q => ?_, fun a o u q => ?_, fun a o q n => ?_, fun a h => ?_, fun a h => ?_⟩
  · obtain ⟨u, hu, ku⟩ := g.hid
    refine ⟨u, hu, fun p hp => ?_⟩
    have := ku p hp
    by_cases z : p = d
    · rw [z, upd_same] at this
      cases this
    · rw [upd_ne z] at this
      exact this
  · have ne : a ≠ d := fun z => by rw [z, hd] at q; cases q
    rw [upd_ne ne]
    exact g.tup a zs (by rw [upd_ne ne]; exact q)
  · have ne : a ≠ d := fun z => by rw [z, hd] at q; cases q
    rw [upd_ne ne]
    exact g.frz a o u (by rw [upd_ne ne]; exact q)
  · have ne : a ≠ d := fun z => n (by rw [z]; exact hm')
    rw [upd_ne ne]
    exact g.frm a o (by rw [upd_ne ne]; exact q) n
  · rcases g.new a h with k | k
    · exact .inl k
    · by_cases z : a = d
      · rw [z]
        exact .inl hm
      · rw [upd_ne z] at k
        exact .inr k
  · have ne : a ≠ d := fun z => by rw [z, upd_same] at h; cases h
    rw [upd_ne ne] at h
    have := g.trk a h
    rw [upd_ne ne] at this
    exact this
theorem sim_unl {K : PySem.W.Frag} {μ : Mu} {H : Hp} {s : S} {n : Nat} {d : Addr} {od : Obj} {xs : List (Key × V)} {kvs : List (Key × D)} (hs : SimS K μ H s) (hn : μ.c[n]? = some d) (hd : H d = some (.frz od (.dK xs))) (r : RepK K μ H xs kvs) : SimS K μ (upd H d (.dK xs)) (s.set n (.dK kvs)) := by
  have k := hq_unl (List.mem_of_getElem? hn) hd
  refine ⟨by rw [List.length_set]; exact hs.len, hs.nd, fun p hp => ?_, hs.dis, fun j c e => ?_⟩
  · by_cases z : p = d
    · rw [z, upd_same]
      exact fun h => nomatch h
    · rw [upd_ne z]
      exact hs.hok p hp
  · by_cases hj : n = j
    · subst hj
      have hl : n < s.length := by rw [← hs.len]; exact (List.getElem?_eq_some_iff.mp hn).1
      rw [List.getElem?_set_self hl] at e
      cases e
      exact ⟨d, hn, xs, upd_same, r.1, RepL.heap k _ _ r.2⟩
    · rw [List.getElem?_set_ne hj] at e
      obtain ⟨a, h1, h2⟩ := hs.cell j c e
      refine ⟨a, h1, h2.heap k (upd_ne fun z => hj ?_)⟩
      subst z
      exact (List.getElem?_inj (List.getElem?_eq_some_iff.mp hn).1 hs.nd).mp (hn.trans h1.symm)
theorem ss_lock {X : Cx} {E : XK} {st : Stmt} {m : Env → M Out} {me : Env → M D} (h : SS X E st m) : SS X E st (lockS me m) := PS.imp (ps_lock h) (by
  rintro Dd σ H ⟨μ, env, s, hv, hs, post⟩
  unfold lockS at post
  cases e1 : me env s with
  | stuck => rw [e1] at post; exact (show False from post).elim
  | exc c s1 => rw [e1] at post; exact (show False from post).elim
  | ok x s1 =>
    rw [e1] at post
    cases x with
    | ptr n =>
      simp only [] at post
      cases ec : s[n]? with
      | none => simp only [ec] at post; exact (show False from post).elim
      | some cl =>
        simp only [ec] at post
        cases cl with
        | dK kvs =>
          simp only [] at post
          have hl : n < s.length := (List.getElem?_eq_some_iff.mp ec).1
          obtain ⟨d, hn, xs, hd, r⟩ : ∃ d, μ.c[n]? = some d ∧ ∃ xs, H d = some (.dK xs) ∧ RepK X.K μ H xs kvs := by
            obtain ⟨a, h1, h2⟩ := hs.cell n _ ec
            exact ⟨a, h1, h2⟩
          have hm : d ∈ μ.c := List.mem_of_getElem? hn
          have mu : Mut (H d) := by rw [hd]; trivial
          refine ⟨d, .dK xs, hd, trivial, fun od => ?_⟩
          have g := grow_put (μ := μ) (H := H) (a := d) (o := .frz od (.dK xs)) mu hm
          have hs1 : SimS X.K μ (upd H d (.frz od (.dK xs))) (s.set n (.fK kvs)) := hs.put hn mu ⟨od, xs, upd_same, r.grow g⟩
          refine ⟨μ, env, s.set n (.fK kvs), hv.grow g, hs1, ?_⟩
          cases em : m env (s.set n (.fK kvs)) with
          | stuck => rw [em] at post; exact (show False from post).elim
          | exc c s2 => rw [em] at post; exact (show False from post).elim
          | ok o s2 =>
            rw [em] at post
            intro μ' H' g' hs'
            have hd' : H' d = some (.frz od (.dK xs)) := g'.frz _ _ _ upd_same
            have hn' := g'.at hn
            have r' : RepK X.K μ' H' xs kvs := (r.grow g).grow g'
            have hs2 := sim_unl hs' hn' hd' r'
            have p := (show Post X.K E μ H (R.ok o (s2.set n (.dK kvs))) (okO X.K Dd) from post) μ' _ (grow_unl hm hd g') hs2
            have k := hq_unl (List.mem_of_getElem? hn') hd'
            have vv : ∀ {σ : L2.St} {en : Env}, SimV X.K μ' H' σ en → SimV X.K μ' (upd H' d (.dK xs)) σ en := fun hv => ⟨hv.len, fun i d e => let ⟨v, h1, h2⟩ := hv.val i d e; ⟨v, h1, Rep.heap k d v h2⟩⟩
            cases o with
            | nx en => exact fun σ2 hv2 => ⟨hd', p σ2 (vv hv2)⟩
            | rt x => exact fun v hx => ⟨hd', p v (Rep.heap k x v hx)⟩
            | bk en => exact fun σ2 hv2 => ⟨hd', p σ2 (vv hv2)⟩
            | ct en => exact fun σ2 hv2 => ⟨hd', p σ2 (vv hv2)⟩
        | lst ds => exact (show False from post).elim
        | dT kvs => exact (show False from post).elim
        | ins C fs => exact (show False from post).elim
        | fK kvs => exact (show False from post).elim
    | _ => exact (show False from post).elim)
section
variable {X : Cx} {E : XK} {elt tg iter tg1 iter1 : Expr} {ifs ifs1 : List Expr} {scope : Scope} {pos spos py : Pos} {mi mi1 : Env → M Src} {t t1 : Env → M Bool} {e : Env → M D} {g g1 : D → Env → M Env} {gt gt1 : TG} {own : List (Str × Nat)} {vs1 : List Nat} {y : Str}
theorem ss_setComp2F (i : Nat) (hc : X.calm = true) (hN : X.N.Nodup) (hi : SI X E tg iter mi) (ok : BlkOk X.N X.env.scope scope own) (hvs : ∀ i ∈ vs1, i ∈ own.map (·.2)) (hgt : GtOk X.K E g gt (own.map (·.2))) (hgt1 : GtOk X.K E g1 gt1 vs1)
    (hg : ∀ (s : Shared) (H : Hp) (C : Addr) (cl : List (Str × Addr)) (fp : List Addr), PG (X.blk s H scope (compEnvC scope cl C X.env) fp) tg gt) (ht : ∀ (s : Shared) (H : Hp) (C : Addr) (cl : List (Str × Addr)) (fp : List Addr), STs (X.blk s H scope (compEnvC scope cl C X.env) fp) E ifs t)
    (hi1 : ∀ (s : Shared) (H : Hp) (C : Addr) (cl : List (Str × Addr)) (fp : List Addr), SI (X.blk s H scope (compEnvC scope cl C X.env) fp) E tg1 iter1 mi1)
    (hg1 : ∀ (s : Shared) (H : Hp) (C : Addr) (cl : List (Str × Addr)) (fp : List Addr), PG (X.blk s H scope (compEnvC scope cl C X.env) fp) tg1 gt1) (ht1 : ∀ (s : Shared) (H : Hp) (C : Addr) (cl : List (Str × Addr)) (fp : List Addr), STs (X.blk s H scope (compEnvC scope cl C X.env) fp) E ifs1 t1)
    (he : ∀ (s : Shared) (H : Hp) (C : Addr) (cl : List (Str × Addr)) (fp : List Addr), SE (X.blk s H scope (compEnvC scope cl C X.env) fp) E elt e) (hy : X.N[i]? = some y := by rfl) (hyl : X.env.scope.names.lookup y = some .local := by rfl)
    (hsw : swapsWith (.ListComp elt [⟨tg, iter, ifs, 0⟩, ⟨tg1, iter1, ifs1, 0⟩] scope pos) (some (.Name y py)) spos.line X.env = pure true := by exact sw_true rfl rfl rfl (by decide +kernel))
    (hs : ∀ x, foldedSetIterable iter X.env x = pure x := by intro _; rfl) (hs1 : ∀ env x, foldedSetIterable iter1 env x = pure x := by intro _ _; rfl) :
    SS X E (.Assign [.Name y py] (.ListComp elt [⟨tg, iter, ifs, 0⟩, ⟨tg1, iter1, ifs1, 0⟩] scope pos) spos) (setS i (comp2F mi g t mi1 g1 t1 e (own.map (·.2)) vs1)) :=
  PS.imp (ps_setLc2 (wi1 := TIof X.K E mi1) (g1 := gt1) (tt := TTof X.K E t) (tt1 := TTof X.K E t1) (te := TEof X.K E e) hc hN hy hyl hsw hi ok hvs hg ht hi1 hg1 ht1 he hs hs1) (ts_set (te_comp2F hgt hgt1))
end
end PL

/-! PL28: a body that may raise, and a handler that says of what class the exception was. -/
namespace PL
open PySem PySem.Spec PyProof.Rows L2
def tryIsM (m : Env → M Out) (k : Str → Option Bool) (env : Env) : M Out := fun s => match m env s with
  | .stuck => .stuck
  | .ok o s' => .ok o s'
  | .exc c s' => match k c with
    | some b => .ok (.rt (.bl b)) s'
    | none => .stuck
theorem tryIs_exc {m : Env → M Out} {k : Str → Option Bool} {env : Env} {s s' : S} {c : Str} {b : Bool} (h : m env s = .exc c s') (hk : k c = some b) : tryIsM m k env s = .ok (.rt (.bl b)) s' := by
  unfold tryIsM
  rw [h]
  show (match k c with | some b => R.ok (Out.rt (D.bl b)) s' | none => .stuck) = _
  rw [hk]
theorem tryIs_ok {m : Env → M Out} {k : Str → Option Bool} {env : Env} {s s' : S} {o : Out} (h : m env s = .ok o s') : tryIsM m k env s = .ok o s' := by
  unfold tryIsM
  rw [h]
theorem exm_of {K : PySem.W.Frag} {cls : Value} {R : Addr} {b : Bool} (h1 : PySem.W.subIn K (.ref R) (.type "BaseException") = some true) (h2 : PySem.W.isClsIn K R = true) (h3 : PySem.W.typeIn K (.ref R) = some (.type "type")) (h4 : PySem.W.subIn K cls (.ref R) = some b) :
    PySem.W.exmOne K cls (.ref R) = some b := by
  have e1 : (PySem.W.subIn K (.ref R) (.type "BaseException") == some true) = true := by rw [h1] <;> rfl
  have e2 : ((PySem.W.clsIn K R).isSome && PySem.W.typeIn K (.ref R) == some (.type "type")) = true := by
    have h2' : (PySem.W.clsIn K R).isSome = true := h2
    rw [h2', h3] <;> rfl
  show (if (PySem.W.subIn K (.ref R) (.type "BaseException") == some true) = true then (if ((PySem.W.clsIn K R).isSome && PySem.W.typeIn K (.ref R) == some (.type "type")) = true then PySem.W.subIn K cls (.ref R) else none) else none) = some b
  rw [if_pos e1, if_pos e2]
  exact h4
theorem kit_self {K : PySem.W.Frag} {R : Addr} : PySem.W.kitOne K (.ref R) (.ref R) = some true := by
  unfold PySem.W.kitOne
  rw [if_pos (beq_self_eq_true _)]
theorem kit_of {K : PySem.W.Frag} {C R : Addr} {b : Bool} (hn : (Value.ref C == Value.ref R) = false) (h2 : PySem.W.isClsIn K R = true) (h3 : PySem.W.typeIn K (.ref R) = some (.type "type")) (h4 : PySem.W.subIn K (.ref C) (.ref R) = some b) :
    PySem.W.kitOne K (.ref C) (.ref R) = some b := by
  have e2 : ((PySem.W.clsIn K R).isSome && PySem.W.typeIn K (.ref R) == some (.type "type")) = true := by
    have h2' : (PySem.W.clsIn K R).isSome = true := h2
    rw [h2', h3] <;> rfl
  show (if (Value.ref C == Value.ref R) = true then some true else (if ((PySem.W.clsIn K R).isSome && PySem.W.typeIn K (.ref R) == some (.type "type")) = true then PySem.W.subIn K (.ref C) (.ref R) else none)) = some b
  rw [if_neg (by rw [hn]; decide), if_pos e2]
  exact h4
/-- what the class x must have to be caught by R and asked whether it is Y -/
structure CatC (K : PySem.W.Frag) (R Y : Value) (x : Str) (C : Addr) (b : Bool) : Prop where
  n : ClsAt K x C
  e : PySem.W.exmOne K (.ref C) R = some true
  i : L2.ExcC K C
  k : PySem.W.kitOne K (.ref C) Y = some b
theorem kc_nil {K : PySem.W.Frag} {R : Value} {Y : Addr} : ∀ (C : Str) (b : Bool), List.lookup C ([] : List (Str × Bool)) = some b → ∃ A, CatC K R (.ref Y) C A b := fun _ _ h => (by cases h)
theorem kc_cons {K : PySem.W.Frag} {R : Value} {Y A : Addr} {x : Str} {b : Bool} {l : List (Str × Bool)} (h : CatC K R (.ref Y) x A b) (t : ∀ (C : Str) (b : Bool), List.lookup C l = some b → ∃ A, CatC K R (.ref Y) C A b) : ∀ (C : Str) (b' : Bool), List.lookup C ((x, b) :: l) = some b' → ∃ A, CatC K R (.ref Y) C A b' := fun C b' e => by
  rw [List.lookup_cons] at e
  split at e
  · rename_i q
    cases e
    have := eq_of_beq q
    subst this
    exact ⟨A, h⟩
  · exact t C b' e
section
variable {X : Cx} {E : XK}
theorem passR (tk : Takes X (fun cls d _ H => E cls d H)) : Passes (L2.CX X.prog X.w) X E := passes_call tk (fun _ _ _ _ h => h)
theorem ss_tryIs {x y n : Str} {c : Value} {Cy : Addr} {i : Nat} {body : List Stmt} {m : Env → M Out} {k : Str → Option Bool} {np p1 p2 p3 p4 p5 pos pos' : Pos}
    (hs : X.stack = X.env :: X.outer) (hf : X.env.frame = some X.env.locals) (hN : X.N.Nodup) (hi : X.N[i]? = some n) (hln : X.env.kindOf n = some .local)
    (hc : Names X x c) (hy : X.mg y = some (.ref Cy)) (gy : Gl X y) (gi : Gl X "isinstance") (mi : X.mg "isinstance" = none)
    (hk : ∀ C b, k C = some b → ∃ A, CatC X.K c (.ref Cy) C A b)
    (hb : ∀ pn xe E', Takes (X.tr pn xe) (fun cls d _ H => E' cls d H) → SSs (X.tr pn xe) E' body m)
    (hd : (n == ("__debug__" : Str)) = false := by decide) (hcd : (n == ("__classdict__" : Str)) = false := by decide) (hdy : (y == ("__debug__" : Str)) = false := by decide)
    (hbi : bootBuiltins "isinstance" = some (.builtin "isinstance") := by decide +kernel) :
    SS X E (.Try body [.ExceptHandler (some (.Name x np)) (some n) [.Return (some (.Call (.Name "isinstance" p1) [.Name n p2, .Name y p3] [] p4)) p5] pos'] [] [] pos) (tryIsM m k) := by
  let E' : WX → XK := fun W cls d H => ∀ σ : L2.St, σ.length = X.N.length → W cls d σ H
  refine PS.imp (ps_try_as (tb := fun W => TSof X.K (E' W) m) (ts := fun a cls d D σ H => ∃ A b, cls = .ref A ∧ d = none ∧ PySem.W.kitOne X.K (.ref A) (.ref Cy) = some b ∧ L2.ExcC X.K A ∧ σ[i]? = some (some (.ref a)) ∧ D.rt (.bl b) H) (Wout := fun _ _ _ _ => False) hs hf hN hi hln hc takes0 (fun W pn xe tk _ => ?_) (fun a oe cls d pn hz hv => ?_)) ?_
  · -- the body
    refine hb pn xe (E' W) fun u s' h => ?_
    obtain ⟨a, B, sI, pins, σ, H, cls, d, e, I, nb, up, sky, na, os, ag, w⟩ := h
    exact tk u s' ⟨a, B, sI, pins, σ, H, cls, d, e, I, nb, up, sky, na, os, ag, w σ I.len⟩
  · -- the suite
    refine ⟨fun pins s σ H D I h => ?_⟩
    obtain ⟨A, b, rfl, rfl, hb1, he, hσ, hr⟩ := h
    have vv : Vis X.env.scope n := .inl hln
    have P : PE (X.suite a ((a, oe) :: pn)) (.Call (.Name "isinstance" p1) [.Name n p2, .Name y p3] [] p4) _ :=
      pe_callB (X := X.suite a ((a, oe) :: pn)) (call_isE he hz hv) gi mi hbi (pa_cons (pe_var hi vv hd hcd) (pa_cons (pe_glob gy hy (v := .ref Cy) rfl hdy) pa_nil)) (by decide) (by decide) rfl rfl
    refine (pss_one (ps_ret P)).run pins s σ H D I ?_
    refine ⟨_, hσ, ?_⟩
    exact ⟨.ref Cy, .ref Cy, b, rfl, fun u hu => by cases hu; rfl, hb1, hr⟩
  · rintro Dd σ H ⟨μ, env, s, hv, hs', post⟩
    refine ⟨μ, env, s, hv, hs', ?_⟩
    unfold tryIsM at post
    cases e : m env s with
    | stuck => rw [e] at post; exact post
    | ok o s1 => rw [e] at post; exact post
    | exc C s1 =>
      rw [e] at post
      change Post X.K E μ H (match k C with | some b => R.ok (Out.rt (D.bl b)) s1 | none => .stuck) (okO X.K Dd) at post
      cases hkC : k C with
      | none => rw [hkC] at post; exact (show False from post).elim
      | some b =>
        rw [hkC] at post
        intro A hA μ1 H1 g1 hs1 σ1 hl
        obtain ⟨A', q⟩ := hk C b hkC
        have eA := ClsAt.inj hA q.n
        subst eA
        refine ⟨true, q.e, fun _ a _ => ?_, fun z => (by cases z)⟩
        have hlt : i < X.N.length := (List.getElem?_eq_some_iff.mp hi).1
        exact ⟨A, b, rfl, rfl, q.k, q.i, by rw [List.getElem?_set_self (by rw [hl]; exact hlt)], post μ1 H1 g1 hs1 (.bl b) (.bl b)⟩
end
theorem raiseM_run {C : Str} {me : Env → M D} {env : Env} {s : S} : raiseM C me env s = (me env s).on fun _ s2 => .exc C s2 := bind_on _ _ _
end PL

/-! M0: fractions, Euclid's steps, the law's own draws: mathematics and small readings. -/
namespace PL
open PySem PySem.Spec PyProof.Rows L2

abbrev num (n d : Int) : D := .tup [.int n, .int d]
/-- what is taken out of n and d: their greatest divisor, with d's sign -/
def ratC (n d : Int) : Int := if d < 0 then -((Nat.gcd n.natAbs d.natAbs : Nat) : Int) else ((Nat.gcd n.natAbs d.natAbs : Nat) : Int)
def rat (n d : Int) : Int × Int := (n / ratC n d, d / ratC n d)
structure IsRat (r : Int × Int) (n d : Int) : Prop where
  pos : 0 < r.2
  eq : r.1 * d = n * r.2
  cop : Nat.gcd r.1.natAbs r.2.natAbs = 1
theorem ratC_abs (n d : Int) : (ratC n d).natAbs = Nat.gcd n.natAbs d.natAbs := by
  unfold ratC
  split <;> omega
theorem gcd_pos {n d : Int} (h : d ≠ 0) : 0 < Nat.gcd n.natAbs d.natAbs := Nat.gcd_pos_of_pos_right _ (by omega)
theorem ratC_ne {n d : Int} (h : d ≠ 0) : ratC n d ≠ 0 := fun z => by
  have h1 := ratC_abs n d
  have h2 := gcd_pos (n := n) h
  rw [z] at h1
  simp at h1
  omega
theorem ratC_n (n d : Int) : ratC n d ∣ n := Int.natAbs_dvd_natAbs.mp (by rw [ratC_abs]; exact Nat.gcd_dvd_left _ _)
theorem ratC_d (n d : Int) : ratC n d ∣ d := Int.natAbs_dvd_natAbs.mp (by rw [ratC_abs]; exact Nat.gcd_dvd_right _ _)
theorem ratC_bt {n d : Int} {k : Nat} (h : d ≠ 0) (b : Bt k d) : Bt k (ratC n d) := b.le (by
  rw [ratC_abs]
  exact Nat.gcd_le_right _ (by omega))
theorem rat_n (n d : Int) : ratC n d * (rat n d).1 = n := Int.mul_ediv_cancel' (ratC_n n d)
theorem rat_d (n d : Int) : ratC n d * (rat n d).2 = d := Int.mul_ediv_cancel' (ratC_d n d)
theorem rat_is {n d : Int} (h : d ≠ 0) : IsRat (rat n d) n d := by
  have hn := rat_n n d
  have hd := rat_d n d
  have hc := ratC_ne (n := n) h
  refine ⟨?_, ?_, ?_⟩
  · have hs : ratC n d < 0 ↔ d < 0 := by
      have h1 := gcd_pos (n := n) h
      unfold ratC
      split <;> omega
    have h0 : (rat n d).2 ≠ 0 := fun z => by
      rw [z, Int.mul_zero] at hd
      exact h hd.symm
    by_cases hlt : d < 0
    · have hcn := hs.mpr hlt
      by_cases hp : 0 < (rat n d).2
      · exact hp
      · have := Int.mul_nonneg_of_nonpos_of_nonpos (Int.le_of_lt hcn) (by omega : (rat n d).2 ≤ 0)
        omega
    · have hcp : 0 < ratC n d := by
        have := mt hs.mp hlt
        omega
      by_cases hp : 0 < (rat n d).2
      · exact hp
      · have := Int.mul_nonpos_of_nonneg_of_nonpos (Int.le_of_lt hcp) (by omega : (rat n d).2 ≤ 0)
        omega
  · have e1 : (rat n d).1 * d = (rat n d).1 * (ratC n d * (rat n d).2) := by rw [hd]
    have e2 : n * (rat n d).2 = (ratC n d * (rat n d).1) * (rat n d).2 := by rw [hn]
    rw [e1, e2]
    grind
  · have e1 : n.natAbs = Nat.gcd n.natAbs d.natAbs * (rat n d).1.natAbs := by
      rw [← ratC_abs, ← Int.natAbs_mul, hn]
    have e2 : d.natAbs = Nat.gcd n.natAbs d.natAbs * (rat n d).2.natAbs := by
      rw [← ratC_abs, ← Int.natAbs_mul, hd]
    have e3 := Nat.gcd_mul_left (Nat.gcd n.natAbs d.natAbs) (rat n d).1.natAbs (rat n d).2.natAbs
    rw [← e1, ← e2] at e3
    have hg := gcd_pos (n := n) h
    exact Nat.eq_of_mul_eq_mul_left hg (by rw [Nat.mul_one]; exact e3.symm)
theorem rat_bt1 {n d : Int} {k : Nat} (h : d ≠ 0) (b : Bt k n) : Bt k (rat n d).1 := b.le (by
  have e := congrArg Int.natAbs (rat_n n d)
  rw [Int.natAbs_mul] at e
  have := ratC_ne (n := n) h
  have hp : 0 < (ratC n d).natAbs := by omega
  rw [← e]
  exact Nat.le_mul_of_pos_left _ hp)
theorem rat_bt2 {n d : Int} {k : Nat} (h : d ≠ 0) (b : Bt k d) : Bt k (rat n d).2 := b.le (by
  have e := congrArg Int.natAbs (rat_d n d)
  rw [Int.natAbs_mul] at e
  have := ratC_ne (n := n) h
  have hp : 0 < (ratC n d).natAbs := by omega
  conv => rhs; rw [← e]
  exact Nat.le_mul_of_pos_left _ hp)
theorem rat_pos {n d : Int} (h : d ≠ 0) : 0 < (rat n d).2 := (rat_is h).pos

/-! ### Euclid -/
/-- the greatest divisor by steps; at most k of them -/
def euc : Nat → Int → Int → Int
  | 0, _, _ => 1
  | k + 1, a, b => if b = 0 then (if a < 0 then -a else a) else euc k b (a % b)
theorem euc_ok : ∀ (k : Nat) (a b : Int) (n : Nat), 0 ≤ b → b < 2 ^ k → 2 * k + 1 ≤ n → euc n a b = ((Nat.gcd a.natAbs b.natAbs : Nat) : Int)
  | k, a, b, 0, _, _, h => by omega
  | k, a, b, n + 1, h0, hb, hn => by
    unfold euc
    by_cases hz : b = 0
    · rw [if_pos hz, hz]
      simp only [Int.natAbs_zero, Nat.gcd_zero_right]
      split <;> omega
    · rw [if_neg hz]
      have hg : ∀ x y : Int, y ≠ 0 → Nat.gcd y.natAbs (x % y).natAbs = Nat.gcd x.natAbs y.natAbs := fun x y hy => by
        have e := Int.gcd_add_mul_left_right y (x % y) (x / y)
        rw [Int.emod_add_mul_ediv] at e
        show Int.gcd y (x % y) = Int.gcd x y
        rw [← e, Int.gcd_comm]
      have hb1 : 0 ≤ a % b := Int.emod_nonneg _ hz
      have hb2 : a % b < b := Int.emod_lt_of_pos _ (by omega)
      cases k with
      | zero =>
        exfalso
        have : (2 : Int) ^ 0 = 1 := rfl
        omega
      | succ k =>
        cases n with
        | zero => omega
        | succ n =>
          unfold euc
          by_cases hz1 : a % b = 0
          · rw [if_pos hz1, ← hg a b hz, hz1]
            simp only [Int.natAbs_zero, Nat.gcd_zero_right]
            split <;> omega
          · rw [if_neg hz1]
            have h1 : 0 ≤ b % (a % b) := Int.emod_nonneg _ hz1
            have h2 : b % (a % b) < a % b := Int.emod_lt_of_pos _ (by omega)
            have h3 : 2 * (b % (a % b)) < b := by
              have e := Int.emod_add_mul_ediv b (a % b)
              have q : 1 ≤ b / (a % b) := by
                have := Int.ediv_le_ediv (show (0 : Int) < a % b by omega) (Int.le_of_lt hb2)
                rw [Int.ediv_self hz1] at this
                exact this
              have m : a % b ≤ (a % b) * (b / (a % b)) := by
                have := Int.mul_le_mul_of_nonneg_left q hb1
                rw [Int.mul_one] at this
                exact this
              omega
            have h4 : b % (a % b) < 2 ^ k := by
              rw [Int.pow_succ] at hb
              omega
            rw [euc_ok k (a % b) (b % (a % b)) n h1 h4 (by omega), hg b (a % b) hz1, hg a b hz]

/-! ### readings of the law's own small defs -/
theorem isi_run {T t : String} {d : D} {s : S} {b : Bool} (h1 : tyNm s d = some t) (h2 : kitB t T = some b) : isiD T d s = .ok (.bl b) s := by
  unfold isiD
  rw [h1]
  simp only [h2]
theorem isi_tt {ds : List D} {s : S} : isiD "tuple" (.tup ds) s = .ok (.bl true) s := isi_run rfl (by decide +kernel)
theorem isi_ii {i : Int} {s : S} : isiD "int" (.int i) s = .ok (.bl true) s := isi_run rfl (by decide +kernel)
theorem isi_bi {i : Bool} {s : S} : isiD "int" (.bl i) s = .ok (.bl true) s := isi_run rfl (by decide +kernel)
theorem isi_ib {i : Int} {s : S} : isiD "bool" (.int i) s = .ok (.bl false) s := isi_run rfl (by decide +kernel)
theorem isi_bb {i : Bool} {s : S} : isiD "bool" (.bl i) s = .ok (.bl true) s := isi_run rfl (by decide +kernel)
section
variable {mi : Env → M Src} {g : D → Env → M Env} {t : Env → M Bool} {e : Env → M D} {vs : List Nat} {env env0 : Env} {s : S} {r : Src} {d : D} {ds : List D}
theorem compM_run : compM mi g t e vs env s = (mi env s).on fun r s1 => (szM r.items.length s1).on fun _ s2 => (collM r g t e (wipeE env vs) r.items s2).on fun ys s3 => .ok (.ptr s3.length) (s3 ++ [.lst ys]) := by
  show (mi env >>= _) s = _
  rw [bind_on]
  congr 1
theorem szM_run {n : Nat} (h : n ≤ 100000) : szM n s = .ok () s := by
  show (if n ≤ 100000 then (Pure.pure () : M Unit) else stuck) s = _
  rw [if_pos h]
  rfl
theorem coll_nil : collM r g t e env0 [] s = (guardM r s).on fun _ s1 => .ok [] s1 := bind_on _ _ _
theorem coll_cons : collM r g t e env0 (d :: ds) s = (guardM r s).on fun _ s1 => (g d env0 s1).on fun env s2 => (t env s2).on fun b s3 => if b = true then (e env s3).on fun y s4 => (collM r g t e env0 ds s4).on fun ys s5 => .ok (y :: ys) s5 else collM r g t e env0 ds s3 := by
  show (guardM r >>= _) s = _
  rw [bind_on]
  congr 1
  funext u s1
  rw [bind_on]
  congr 1
  funext env s2
  rw [bind_on]
  congr 1
  funext b s3
  cases b with
  | true =>
    show (e env >>= _) s3 = _
    rw [bind_on]
    congr 1
  | false => rfl
/-- a comprehension that keeps every item and whose store stays -/
theorem coll_map {v : D → D} (ok : r.Ok s) (h : ∀ d ∈ ds, ((g d env0 s).on fun env s2 => (t env s2).on fun b s3 => if b = true then e env s3 else .stuck) = .ok (v d) s) : collM r g t e env0 ds s = .ok (ds.map v) s := by
  induction ds with
  | nil =>
    rw [coll_nil, guard_pos ok]
    rfl
  | cons d ds ih =>
    have h1 := h d List.mem_cons_self
    have h2 := ih fun x hx => h x (List.mem_cons_of_mem _ hx)
    rw [coll_cons, guard_pos ok, on_ok]
    cases eg : g d env0 s with
    | stuck => rw [eg] at h1; cases h1
    | exc c s1 => rw [eg] at h1; cases h1
    | ok env s1 =>
      rw [eg, on_ok] at h1
      rw [on_ok]
      cases et : t env s1 with
      | stuck => rw [et] at h1; cases h1
      | exc c s1 => rw [et] at h1; cases h1
      | ok b s3 =>
        rw [et, on_ok] at h1
        rw [on_ok]
        cases b with
        | false => cases h1
        | true =>
          simp only [if_true] at h1 ⊢
          rw [h1, on_ok, h2]
          rfl
end
theorem all_new {s : S} {bs : List Bool} : allD (.ptr s.length) (s ++ [.lst (bs.map D.bl)]) = .ok (.bl (bs.all id)) (s ++ [.lst (bs.map D.bl)]) := by
  have e1 : seqD (s ++ [.lst (bs.map D.bl)]) (.ptr s.length) = some (bs.map D.bl) := by
    show (match (s ++ [Cell.lst (bs.map D.bl)])[s.length]? with
      | some (.lst ds) => some ds
      | _ => none) = _
    rw [List.getElem?_append_right (Nat.le_refl _), Nat.sub_self]
    rfl
  have e2 : ∀ l : List Bool, dBls (l.map D.bl) = some l := fun l => by
    induction l with
    | nil => rfl
    | cons b l ih =>
      show (dBls (l.map D.bl)).map (b :: ·) = _
      rw [ih]
      rfl
  unfold allD
  simp only [e1, e2]
theorem any_new {s : S} {bs : List Bool} : anyD (.ptr s.length) (s ++ [.lst (bs.map D.bl)]) = .ok (.bl (bs.any id)) (s ++ [.lst (bs.map D.bl)]) := by
  have e1 : seqD (s ++ [.lst (bs.map D.bl)]) (.ptr s.length) = some (bs.map D.bl) := by
    show (match (s ++ [Cell.lst (bs.map D.bl)])[s.length]? with
      | some (.lst ds) => some ds
      | _ => none) = _
    rw [List.getElem?_append_right (Nat.le_refl _), Nat.sub_self]
    rfl
  have e2 : ∀ l : List Bool, dBls (l.map D.bl) = some l := fun l => by
    induction l with
    | nil => rfl
    | cons b l ih =>
      show (dBls (l.map D.bl)).map (b :: ·) = _
      rw [ih]
      rfl
  unfold anyD
  simp only [e1, e2]
theorem new_at {s : S} {c : Cell} : (s ++ [c])[s.length]? = some c := by
  rw [List.getElem?_append_right (Nat.le_refl _), Nat.sub_self]
  rfl
theorem old_at {s g : S} {k : Nat} {c : Cell} (h : s[k]? = some c) : (s ++ g)[k]? = some c := by
  rw [List.getElem?_append_left (List.getElem?_eq_some_iff.mp h).1]
  exact h
end PL

/-! M1: signs, loops that end at the first hit, comprehensions that leave lists behind. -/
namespace PL
open PySem PySem.Spec PyProof.Rows L2
def sgn (x : Int) : Int := if 0 < x then 1 else if x < 0 then -1 else 0
theorem mk2 {i j : Int} {k l : Nat} (h : Bt k i) (m : Bt l j) (hk : k ≤ 400000) (hl : l ≤ 400000) : MulOk i j := mulOk_b (h.mono hk) (m.mono hl)
theorem sgn_pos {x k : Int} (h : 0 < k) : sgn (x * k) = sgn x := by
  unfold sgn
  by_cases h1 : 0 < x
  · rw [if_pos h1, if_pos (Int.mul_pos h1 h)]
  · by_cases h2 : x < 0
    · rw [if_neg h1, if_pos h2, if_neg (by have := Int.mul_neg_of_neg_of_pos h2 h; omega), if_pos (Int.mul_neg_of_neg_of_pos h2 h)]
    · have : x = 0 := by omega
      rw [this, Int.zero_mul]
theorem sgn_int (a b : Int) : (if decide (b < a) = true then (1 : Int) else 0) - (if decide (a < b) = true then 1 else 0) = sgn (a - b) := by
  unfold sgn
  by_cases h1 : b < a
  · rw [decide_eq_true h1, decide_eq_false (by omega : ¬ a < b), if_pos (by omega : 0 < a - b)]
    rfl
  · by_cases h2 : a < b
    · rw [decide_eq_false h1, decide_eq_true h2, if_neg (by omega : ¬ 0 < a - b), if_pos (by omega : a - b < 0)]
      rfl
    · rw [decide_eq_false h1, decide_eq_false h2, if_neg (by omega : ¬ 0 < a - b), if_neg (by omega : ¬ a - b < 0)]
      rfl
theorem sgn_bt (x : Int) : Bt 2 (sgn x) := by
  unfold sgn Bt
  split
  · decide
  · split <;> decide
theorem sgn_p (x : Int) : 0 < sgn x ↔ 0 < x := by
  unfold sgn
  split
  · exact ⟨fun _ => by assumption, fun _ => by decide⟩
  · split
    · exact ⟨fun h => absurd h (by decide), fun h => by omega⟩
    · exact ⟨fun h => absurd h (by decide), fun h => by omega⟩
theorem sgn_n (x : Int) : sgn x < 0 ↔ x < 0 := by
  unfold sgn
  split
  · exact ⟨fun h => absurd h (by decide), fun h => by omega⟩
  · split
    · exact ⟨fun _ => by assumption, fun _ => by decide⟩
    · exact ⟨fun h => absurd h (by decide), fun h => by omega⟩
theorem sgn_z (x : Int) : sgn x = 0 ↔ x = 0 := by
  unfold sgn
  split
  · exact ⟨fun h => absurd h (by decide), fun h => by omega⟩
  · split
    · exact ⟨fun h => absurd h (by decide), fun h => by omega⟩
    · exact ⟨fun _ => by omega, fun _ => rfl⟩
theorem Src.Ok.more {r : Src} {s g : S} (h : r.Ok s) : r.Ok (s ++ g) := by
  unfold PL.Src.Ok at *
  split
  · trivial
  · rename_i n ds e
    rw [e] at h
    exact old_at h
/-- a comprehension, a value for each turn; the store may grow -/
theorem coll_app {r : Src} {g : D → PL.Env → M PL.Env} {t : PL.Env → M Bool} {e : PL.Env → M D} {env0 : PL.Env} {v : D → D} : ∀ {ds : List D} {s : S}, r.Ok s → (∀ d ∈ ds, ∀ s' : S, (∃ g0, s' = s ++ g0) → ∃ g1, ((g d env0 s').on fun env s2 => (t env s2).on fun b s3 => if b = true then e env s3 else .stuck) = .ok (v d) (s' ++ g1)) → ∃ g1, collM r g t e env0 ds s = .ok (ds.map v) (s ++ g1)
  | [], s, ok, h => ⟨[], by
    rw [coll_nil, guard_pos ok, List.append_nil]
    rfl⟩
  | d :: ds, s, ok, h => by
    obtain ⟨g1, h1⟩ := h d List.mem_cons_self s ⟨[], (List.append_nil s).symm⟩
    obtain ⟨g2, h2⟩ := coll_app (ds := ds) (s := s ++ g1) (Src.Ok.more ok) fun x hx s' ⟨g0, e0⟩ => h x (List.mem_cons_of_mem _ hx) s' ⟨g1 ++ g0, by rw [e0, List.append_assoc]⟩
    refine ⟨g1 ++ g2, ?_⟩
    rw [coll_cons, guard_pos ok, on_ok]
    cases eg : g d env0 s with
    | stuck => rw [eg] at h1; cases h1
    | exc c s1 => rw [eg] at h1; cases h1
    | ok env s1 =>
      rw [eg, on_ok] at h1
      rw [on_ok]
      cases et : t env s1 with
      | stuck => rw [et] at h1; cases h1
      | exc c s1 => rw [et] at h1; cases h1
      | ok b s3 =>
        rw [et, on_ok] at h1
        rw [on_ok]
        cases b with
        | false => cases h1
        | true =>
          simp only [if_true] at h1 ⊢
          rw [h1, on_ok, h2, on_ok, List.append_assoc]
          rfl
/-- a loop that returns at the first hit -/
theorem loop_any {r : Src} {gg : D → PL.Env → M PL.Env} {b : PL.Env → M Out} {f : D → Bool} {rv : D} (I : PL.Env → S → Prop) (J : S → Prop) (ok : ∀ env s, I env s → r.Ok s) : ∀ (ds : List D) (env : PL.Env) (s : S), I env s →
    (∀ d ∈ ds, ∀ env s, I env s → ∃ o s', ((gg d env s).on fun e s2 => b e s2) = .ok o s' ∧ ((f d = true ∧ o = .rt rv ∧ J s') ∨ (f d = false ∧ ∃ env', o = .nx env' ∧ I env' s'))) →
    ∃ o s', loopM r gg b ds env s = .ok o s' ∧ ((ds.any f = true ∧ o = .rt rv ∧ J s') ∨ (ds.any f = false ∧ ∃ env', o = .nx env' ∧ I env' s'))
  | [], env, s, h, _ => ⟨.nx env, s, by rw [loop_nil, guard_pos (ok _ _ h)]; rfl, .inr ⟨rfl, env, rfl, h⟩⟩
  | d :: ds, env, s, h, turn => by
    obtain ⟨o, s', e1, c⟩ := turn d List.mem_cons_self env s h
    have e2 : loopM r gg b (d :: ds) env s = (R.ok o s').on (lpK r gg b ds) := by
      rw [loop_cons, guard_pos (ok _ _ h), on_ok]
      cases eg : gg d env s with
      | stuck => rw [eg] at e1; cases e1
      | exc c s1 => rw [eg] at e1; cases e1
      | ok e s1 =>
        rw [eg, on_ok] at e1
        rw [on_ok, e1]
    rcases c with ⟨hf, rfl, hj⟩ | ⟨hf, env', rfl, hi⟩
    · exact ⟨_, s', e2, .inl ⟨by rw [List.any_cons, hf]; rfl, rfl, hj⟩⟩
    · obtain ⟨o2, s2, e3, c3⟩ := loop_any I J ok ds env' s' hi fun x hx => turn x (List.mem_cons_of_mem _ hx)
      exact ⟨o2, s2, e2.trans e3, by rw [List.any_cons, hf, Bool.false_or]; exact c3⟩
theorem all_app {s : S} {bs : List Bool} : allD (.ptr s.length) (s ++ [.lst (bs.map D.bl)]) = .ok (.bl (bs.all id)) (s ++ [.lst (bs.map D.bl)]) := all_new
theorem rng2_run {a b : Int} {s : S} (h : (-4000000000 ≤ a ∧ a ≤ 4000000000) ∧ (-4000000000 ≤ b ∧ b ≤ 4000000000)) : rng2D [.int a, .int b] s = .ok ⟨rngItems a (b - a).toNat, none⟩ s := by
  show (if _ then _ else _ : M Src) s = _
  rw [if_pos h]
  rfl
end PL

/-! RN: mirrors run, lists being values: comprehensions, loops, what is cut back. -/
namespace PL
open PySem PySem.Spec PyProof.Rows L2
/-! ### closed data -/
section
variable {n : Nat}
theorem cl_non : Cl n .non = True := eq_true .non
theorem cl_bl (b : Bool) : Cl n (.bl b) = True := eq_true (.bl b)
theorem cl_int (i : Int) : Cl n (.int i) = True := eq_true (.int i)
theorem cl_str (x : Str) : Cl n (.str x) = True := eq_true (.str x)
theorem cl_tup (ds : List D) : Cl n (.tup ds) = ClL n ds := propext ⟨fun h => by cases h; assumption, .tup⟩
theorem cl_vls (ds : List D) : Cl n (.vls ds) = ClL n ds := propext ⟨fun h => by cases h; assumption, .vls⟩
theorem cl_flst (ds : List D) : Cl n (.flst ds) = ClL n ds := propext ⟨fun h => by cases h; assumption, .flst⟩
theorem cl_ptr (k : Nat) : Cl n (.ptr k) = (k < n) := propext ⟨fun h => by cases h; assumption, .ptr⟩
theorem clL_nil : ClL n [] = True := eq_true .nil
theorem clL_cons (d : D) (ds : List D) : ClL n (d :: ds) = (Cl n d ∧ ClL n ds) := propext ⟨fun h => by cases h; exact ⟨by assumption, by assumption⟩, fun h => .cons h.1 h.2⟩
theorem clL_of : ∀ {ds : List D}, (∀ d ∈ ds, Cl n d) → ClL n ds
  | [], _ => .nil
  | d :: ds, h => .cons (h d List.mem_cons_self) (clL_of fun x hx => h x (List.mem_cons_of_mem _ hx))
theorem clL_map {α : Type} {f : α → D} {l : List α} (h : ∀ a, Cl n (f a) = True) : ClL n (l.map f) = True := eq_true (clL_of fun d hd => by
  obtain ⟨a, _, rfl⟩ := List.mem_map.mp hd
  exact of_eq_true (h a))
theorem clL_int (l : List Int) : ClL n (l.map D.int) = True := clL_map fun _ => cl_int _
theorem clL_pD (l : List (Int × Int)) : ClL n (l.map pD) = True := clL_map fun _ => eq_true (.tup (.cons (.int _) (.cons (.int _) .nil)))
theorem clL_app {a b : List D} : ClL n (a ++ b) = (ClL n a ∧ ClL n b) := propext (by
  induction a with
  | nil => exact ⟨fun h => ⟨.nil, h⟩, fun h => h.2⟩
  | cons d a ih =>
    rw [List.cons_append, clL_cons, clL_cons, and_assoc, ← ih])
theorem cl_pD (p : Int × Int) : Cl n (pD p) = True := eq_true (.tup (.cons (.int _) (.cons (.int _) .nil)))
end
/-! ### what is cut back -/
theorem cut_app {s g : S} : Cut s (s ++ g) := ⟨by rw [List.length_append]; omega, fun i c hi e => .inl (by rw [List.getElem?_append_left hi] at e; exact e)⟩
theorem take_app {s g : S} : (s ++ g).take s.length = s := by rw [List.take_append_of_le_length (Nat.le_refl _), List.take_length]
theorem cutR_ok {s s' s1 : S} {d : D} (hc : Cut s s') (hd : Cl s.length d) (ht : s'.take s.length = s1) : cutR s (.ok d s') = .ok d s1 := by
  unfold cutR
  simp only []
  rw [if_pos hc, if_pos hd, ht]
theorem cutR_vls {s s' s1 : S} {k : Nat} {ds : List D} (hc : Cut s s') (hk : s.length ≤ k) (e : s'[k]? = some (.lst ds)) (hd : ClL s.length ds) (ht : s'.take s.length = s1) : cutR s (.ok (.ptr k) s') = .ok (.vls ds) s1 := by
  unfold cutR
  simp only []
  have h1 : ¬ Cl s.length (.ptr k) := fun h => by
    cases h
    omega
  have h2 : thawD s' (.ptr k) = some ds := by
    unfold thawD
    simp only [e]
  rw [if_pos hc, if_neg h1, h2]
  simp only []
  rw [if_pos hd, ht]
theorem cut_eq {s : S} {d : D} (hd : Cl s.length d) : cutR s (.ok d s) = .ok d s := cutR_ok ⟨Nat.le_refl _, fun i c _ e => .inl e⟩ hd (List.take_length ..)
theorem cut_eqA {s g : S} {d : D} (hd : Cl s.length d) : cutR s (.ok d (s ++ g)) = .ok d s := cutR_ok cut_app hd take_app
theorem cut_lst {s : S} {ds : List D} (hd : ClL s.length ds) : cutR s (.ok (.ptr s.length) (s ++ [.lst ds])) = .ok (.vls ds) s := cutR_vls cut_app (Nat.le_refl _) new_at hd take_app
/-- the first cell written, cells added -/
theorem cut_hd {c c' : Cell} {r g : S} {d : D} (hc : CellCl (r.length + 1) c') (hd : Cl (r.length + 1) d) : cutR (c :: r) (.ok d (c' :: (r ++ g))) = .ok d (c' :: r) := by
  refine cutR_ok ⟨by simp, fun i x hi e => ?_⟩ hd (by simp)
  cases i with
  | zero =>
    simp at e
    subst e
    exact .inr hc
  | succ i =>
    left
    simp at e hi ⊢
    rw [List.getElem?_append_left hi] at e
    exact e
theorem cut_hd0 {c c' : Cell} {r : S} {d : D} (hc : CellCl (r.length + 1) c') (hd : Cl (r.length + 1) d) : cutR (c :: r) (.ok d (c' :: r)) = .ok d (c' :: r) := by
  have := cut_hd (c := c) (g := []) hc hd
  rw [List.append_nil] at this
  exact this
section
variable {m : Env → M Out} {s : S} {mi : Env → M Src} {g : D → Env → M Env} {t : Env → M Bool} {e : Env → M D} {vs : List Nat} {env env0 : Env} {r : Src} {d : D} {ds : List D} {b : Env → M Out}
theorem fnF_run (N : Nat) (ds : List D) : fnF N m ds s = cutR s ((m (startE N ds) s).on fun o s1 => outM o s1) := by
  show cutR s (fnM N m ds s) = _
  rw [fnM_run]
theorem compF_run : compF mi g t e vs env s = (mi env s).on fun r s1 => (szM r.items.length s1).on fun _ s2 => (collM r g t e (wipeE env vs) r.items s2).on fun ys s3 => .ok (.vls ys) s3 := by
  show (mi env >>= _) s = _
  rw [bind_on]
  congr 1
/-- one turn of a comprehension that keeps all -/
def turnC (g : D → Env → M Env) (t : Env → M Bool) (e : Env → M D) (env0 : Env) (d : D) (s : S) : R D := (g d env0 s).on fun env s2 => (t env s2).on fun b s3 => if b = true then e env s3 else .stuck
theorem coll_enc {α : Type} {enc out : α → D} {l : List α} (ok : r.Ok s) (h : ∀ a ∈ l, turnC g t e env0 (enc a) s = .ok (out a) s) : collM r g t e env0 (l.map enc) s = .ok (l.map out) s := by
  induction l with
  | nil =>
    rw [List.map_nil, coll_nil, guard_pos ok]
    rfl
  | cons a l ih =>
    have h1 := h a List.mem_cons_self
    have h2 := ih fun x hx => h x (List.mem_cons_of_mem _ hx)
    unfold turnC at h1
    rw [List.map_cons, coll_cons, guard_pos ok, on_ok]
    cases eg : g (enc a) env0 s with
    | stuck => rw [eg] at h1; cases h1
    | exc c s1 => rw [eg] at h1; cases h1
    | ok env s1 =>
      rw [eg, on_ok] at h1
      rw [on_ok]
      cases et : t env s1 with
      | stuck => rw [et] at h1; cases h1
      | exc c s1 => rw [et] at h1; cases h1
      | ok b s3 =>
        rw [et, on_ok] at h1
        rw [on_ok]
        cases b with
        | false => cases h1
        | true =>
          simp only [if_true] at h1 ⊢
          rw [h1, on_ok, h2]
          rfl
/-- a comprehension over a value -/
theorem compF_enc {α : Type} {enc out : α → D} {l : List α} {ma : Env → M D} {d0 : D} (h0 : ma env s = .ok d0 s) (hs : srcD d0 s = .ok ⟨l.map enc, none⟩ s) (hz : l.length ≤ 100000) (h : ∀ a ∈ l, turnC g t e (wipeE env vs) (enc a) s = .ok (out a) s) :
    compF (srcM ma) g t e vs env s = .ok (.vls (l.map out)) s := by
  rw [compF_run, srcM_run, h0, on_ok, hs, on_ok]
  have : szM (l.map enc).length s = .ok () s := szM_run (by rw [List.length_map]; exact hz)
  simp only []
  rw [this, on_ok, coll_enc (r := ⟨l.map enc, none⟩) trivial h, on_ok]
/-- .. over a cell -/
theorem compF_cell {α : Type} {enc out : α → D} {l : List α} {ma : Env → M D} {k : Nat} (h0 : ma env s = .ok (.ptr k) s) (hs : s[k]? = some (.lst (l.map enc))) (hz : l.length ≤ 100000) (h : ∀ a ∈ l, turnC g t e (wipeE env vs) (enc a) s = .ok (out a) s) :
    compF (srcM ma) g t e vs env s = .ok (.vls (l.map out)) s := by
  rw [compF_run, srcM_run, h0, on_ok, srcD_lst hs, on_ok]
  have : szM (l.map enc).length s = .ok () s := szM_run (by rw [List.length_map]; exact hz)
  simp only []
  rw [this, on_ok, coll_enc (r := ⟨l.map enc, some (k, l.map enc)⟩) hs h, on_ok]
/-- .. over a range -/
theorem compF_rng {out : Nat → D} {ma : Env → M (List D)} {n : Nat} (h0 : ma env s = .ok [.int (n : Int)] s) (hz : n ≤ 100000) (h : ∀ i, i < n → turnC g t e (wipeE env vs) (.int (i : Int)) s = .ok (out i) s) :
    compF (srcA rng1D ma) g t e vs env s = .ok (.vls ((List.range n).map out)) s := by
  rw [compF_run, srcA_run, h0, on_ok, rng1_run (by omega), on_ok]
  have e1 : rngItems 0 (n : Int).toNat = (List.range n).map fun (i : Nat) => D.int (i : Int) := by
    unfold rngItems
    rw [Int.toNat_natCast]
    exact List.map_congr_left fun i _ => by rw [Int.zero_add]
  have : szM (rngItems 0 (n : Int).toNat).length s = .ok () s := szM_run (by rw [rng_len]; omega)
  simp only []
  rw [this, on_ok, e1, coll_enc (r := ⟨_, none⟩) trivial (fun i hi => h i (List.mem_range.mp hi)), on_ok]
/-! ### loops -/
/-- a loop whose turns go on: what is kept is a function of the items -/
theorem loop_fold {α σ : Type} {enc : α → D} {step : σ → α → σ} (St : σ → Env → S → Prop) (ok : ∀ st env s, St st env s → r.Ok s) : ∀ (l : List α) (st : σ) (env : Env) (s : S), St st env s →
    (∀ a ∈ l, ∀ st env s, St st env s → ∃ env' s', ((g (enc a) env s).on fun e s2 => b e s2) = .ok (.nx env') s' ∧ St (step st a) env' s') → ∃ env' s', loopM r g b (l.map enc) env s = .ok (.nx env') s' ∧ St (l.foldl step st) env' s'
  | [], st, env, s, h, _ => ⟨env, s, by rw [List.map_nil, loop_nil, guard_pos (ok _ _ _ h)]; rfl, h⟩
  | a :: l, st, env, s, h, turn => by
    obtain ⟨env1, s1, e1, h1⟩ := turn a List.mem_cons_self st env s h
    obtain ⟨env2, s2, e2, h2⟩ := loop_fold St ok l (step st a) env1 s1 h1 fun x hx => turn x (List.mem_cons_of_mem _ hx)
    refine ⟨env2, s2, ?_, h2⟩
    rw [List.map_cons, loop_cons, guard_pos (ok _ _ _ h), on_ok]
    cases eg : g (enc a) env s with
    | stuck => rw [eg] at e1; cases e1
    | exc c s1 => rw [eg] at e1; cases e1
    | ok e s3 =>
      rw [eg, on_ok] at e1
      rw [on_ok, e1, on_ok]
      exact e2
/-- a fold that may end early -/
def foldE {α σ ε : Type} (f : σ → α → Except ε σ) : σ → List α → Except ε σ
  | st, [] => .ok st
  | st, a :: l => match f st a with
    | .ok st' => foldE f st' l
    | .error d => .error d
/-- a loop whose turns go on or return -/
theorem loop_ret {α σ : Type} {enc : α → D} {step : σ → α → Except D σ} (St : σ → Env → S → Prop) (Rt : D → S → Prop) (ok : ∀ st env s, St st env s → r.Ok s) : ∀ (l : List α) (st : σ) (env : Env) (s : S), St st env s →
    (∀ a ∈ l, ∀ st env s, St st env s → ∃ o s', ((g (enc a) env s).on fun e s2 => b e s2) = .ok o s' ∧ ((∃ st' env', step st a = .ok st' ∧ o = .nx env' ∧ St st' env' s') ∨ (∃ d, step st a = .error d ∧ o = .rt d ∧ Rt d s'))) →
    ∃ o s', loopM r g b (l.map enc) env s = .ok o s' ∧ ((∃ st' env', foldE step st l = .ok st' ∧ o = .nx env' ∧ St st' env' s') ∨ (∃ d, foldE step st l = .error d ∧ o = .rt d ∧ Rt d s'))
  | [], st, env, s, h, _ => ⟨.nx env, s, by rw [List.map_nil, loop_nil, guard_pos (ok _ _ _ h)]; rfl, .inl ⟨st, env, rfl, rfl, h⟩⟩
  | a :: l, st, env, s, h, turn => by
    obtain ⟨o, s1, e1, c⟩ := turn a List.mem_cons_self st env s h
    have e2 : loopM r g b ((a :: l).map enc) env s = (R.ok o s1).on (lpK r g b (l.map enc)) := by
      rw [List.map_cons, loop_cons, guard_pos (ok _ _ _ h), on_ok]
      cases eg : g (enc a) env s with
      | stuck => rw [eg] at e1; cases e1
      | exc c s1 => rw [eg] at e1; cases e1
      | ok e s3 =>
        rw [eg, on_ok] at e1
        rw [on_ok, e1]
    rcases c with ⟨st', env', h1, rfl, h2⟩ | ⟨d, h1, rfl, h2⟩
    · obtain ⟨o2, s2, e3, c3⟩ := loop_ret St Rt ok l st' env' s1 h2 fun x hx => turn x (List.mem_cons_of_mem _ hx)
      refine ⟨o2, s2, e2.trans e3, ?_⟩
      unfold foldE
      rw [h1]
      exact c3
    · refine ⟨.rt d, s1, e2, .inr ⟨d, ?_, rfl, h2⟩⟩
      unfold foldE
      rw [h1]
/-- .. the turns being counted -/
theorem loop_retI {α σ : Type} {enc : α → D} {step : σ → α → Except D σ} (St : Nat → σ → Env → S → Prop) (Rt : D → S → Prop) (ok : ∀ i st env s, St i st env s → r.Ok s) : ∀ (l : List α) (i : Nat) (st : σ) (env : Env) (s : S), St i st env s →
    (∀ j a, l[j]? = some a → ∀ st env s, St (i + j) st env s → ∃ o s', ((g (enc a) env s).on fun e s2 => b e s2) = .ok o s' ∧ ((∃ st' env', step st a = .ok st' ∧ o = .nx env' ∧ St (i + j + 1) st' env' s') ∨ (∃ d, step st a = .error d ∧ o = .rt d ∧ Rt d s'))) →
    ∃ o s', loopM r g b (l.map enc) env s = .ok o s' ∧ ((∃ st' env', foldE step st l = .ok st' ∧ o = .nx env' ∧ St (i + l.length) st' env' s') ∨ (∃ d, foldE step st l = .error d ∧ o = .rt d ∧ Rt d s'))
  | [], i, st, env, s, h, _ => ⟨.nx env, s, by rw [List.map_nil, loop_nil, guard_pos (ok _ _ _ _ h)]; rfl, .inl ⟨st, env, rfl, rfl, h⟩⟩
  | a :: l, i, st, env, s, h, turn => by
    obtain ⟨o, s1, e1, c⟩ := turn 0 a rfl st env s h
    have e2 : loopM r g b ((a :: l).map enc) env s = (R.ok o s1).on (lpK r g b (l.map enc)) := by
      rw [List.map_cons, loop_cons, guard_pos (ok _ _ _ _ h), on_ok]
      cases eg : g (enc a) env s with
      | stuck => rw [eg] at e1; cases e1
      | exc c s1 => rw [eg] at e1; cases e1
      | ok e s3 =>
        rw [eg, on_ok] at e1
        rw [on_ok, e1]
    rcases c with ⟨st', env', h1, rfl, h2⟩ | ⟨d, h1, rfl, h2⟩
    · obtain ⟨o2, s2, e3, c3⟩ := loop_retI St Rt ok l (i + 1) st' env' s1 h2 fun j x hx st env s hst => by
        have := turn (j + 1) x (by simpa using hx) st env s (by rw [show i + (j + 1) = i + 1 + j by omega]; exact hst)
        rw [show i + (j + 1) + 1 = i + 1 + j + 1 by omega] at this
        exact this
      refine ⟨o2, s2, e2.trans e3, ?_⟩
      unfold foldE
      rw [h1, List.length_cons, show i + (l.length + 1) = i + 1 + l.length by omega]
      exact c3
    · refine ⟨.rt d, s1, e2, .inr ⟨d, ?_, rfl, h2⟩⟩
      unfold foldE
      rw [h1]
theorem loop_foldI {α σ : Type} {enc : α → D} {step : σ → α → σ} (St : Nat → σ → Env → S → Prop) (ok : ∀ i st env s, St i st env s → r.Ok s) : ∀ (l : List α) (i : Nat) (st : σ) (env : Env) (s : S), St i st env s →
    (∀ j a, l[j]? = some a → ∀ st env s, St (i + j) st env s → ∃ env' s', ((g (enc a) env s).on fun e s2 => b e s2) = .ok (.nx env') s' ∧ St (i + j + 1) (step st a) env' s') → ∃ env' s', loopM r g b (l.map enc) env s = .ok (.nx env') s' ∧ St (i + l.length) (l.foldl step st) env' s'
  | [], i, st, env, s, h, _ => ⟨env, s, by rw [List.map_nil, loop_nil, guard_pos (ok _ _ _ _ h)]; rfl, h⟩
  | a :: l, i, st, env, s, h, turn => by
    obtain ⟨env1, s1, e1, h1⟩ := turn 0 a rfl st env s h
    obtain ⟨env2, s2, e2, h2⟩ := loop_foldI St ok l (i + 1) (step st a) env1 s1 h1 fun j x hx st env s hst => by
      have := turn (j + 1) x (by simpa using hx) st env s (by rw [show i + (j + 1) = i + 1 + j by omega]; exact hst)
      rw [show i + (j + 1) + 1 = i + 1 + j + 1 by omega] at this
      exact this
    refine ⟨env2, s2, ?_, by rw [List.length_cons, show i + (l.length + 1) = i + 1 + l.length by omega]; exact h2⟩
    rw [List.map_cons, loop_cons, guard_pos (ok _ _ _ _ h), on_ok]
    cases eg : g (enc a) env s with
    | stuck => rw [eg] at e1; cases e1
    | exc c s1 => rw [eg] at e1; cases e1
    | ok e s3 =>
      rw [eg, on_ok] at e1
      rw [on_ok, e1, on_ok]
      exact e2
theorem rng1_nat {n : Nat} (h : n ≤ 1000000) : rng1D [.int (n : Int)] s = .ok ⟨(List.range n).map fun (i : Nat) => D.int (i : Int), none⟩ s := by
  rw [rng1_run (by omega)]
  have e1 : rngItems 0 (n : Int).toNat = (List.range n).map fun (i : Nat) => D.int (i : Int) := by
    unfold rngItems
    rw [Int.toNat_natCast]
    exact List.map_congr_left fun i _ => by rw [Int.zero_add]
  rw [e1]
/-- a while, its turns counted down -/
theorem while_all {c : Env → M Bool} (I : Nat → Env → S → Prop) (Dn : Env → S → Prop)
    (turn : ∀ k env s, I k env s → (∃ s', c env s = .ok false s' ∧ Dn env s') ∨ (∃ s1 env' s' k', c env s = .ok true s1 ∧ b env s1 = .ok (.nx env') s' ∧ k' < k ∧ I k' env' s')) :
    ∀ (k : Nat) (env : Env) (s : S), I k env s → ∃ env' s', whileS c b env s = .ok (.nx env') s' ∧ Dn env' s' := by
  have key : ∀ (k : Nat) (env : Env) (s : S), I k env s → ∃ n env' s', whileN c b n env s = .ok (.nx env') s' ∧ Dn env' s' := by
    intro k
    induction k using Nat.strongRecOn with
    | ind k ih =>
      intro env s h
      rcases turn k env s h with ⟨s', e, hd⟩ | ⟨s1, env', s', k', e1, e2, hk, h'⟩
      · refine ⟨1, env, s', ?_, hd⟩
        unfold whileN
        rw [bind_run, e]
        rfl
      · obtain ⟨n, env2, s2, e3, hd⟩ := ih k' hk env' s' h'
        refine ⟨n + 1, env2, s2, ?_, hd⟩
        unfold whileN
        rw [bind_run, e1]
        simp only [if_true]
        rw [bind_run, e2]
        exact e3
  intro k env s h
  obtain ⟨n, env', s', e, hd⟩ := key k env s h
  exact ⟨env', s', (whileS_eq (by rw [e]; intro z; cases z)).trans e, hd⟩
end
/-! ### lists as values -/
theorem dBls_map : ∀ l : List Bool, dBls (l.map D.bl) = some l
  | [] => rfl
  | b :: l => by
    show (dBls (l.map D.bl)).map (b :: ·) = _
    rw [dBls_map l]
    rfl
section
variable {s : S}
theorem all_vls {bs : List Bool} : allD (.vls (bs.map D.bl)) s = .ok (.bl (bs.all id)) s := by
  show (match dBls (bs.map D.bl) with
      | some bs => R.ok (D.bl (bs.all id)) s
      | none => .stuck) = _
  rw [dBls_map]
theorem any_vls {bs : List Bool} : anyD (.vls (bs.map D.bl)) s = .ok (.bl (bs.any id)) s := by
  show (match dBls (bs.map D.bl) with
      | some bs => R.ok (D.bl (bs.any id)) s
      | none => .stuck) = _
  rw [dBls_map]
theorem all_mapV {α : Type} {l : List α} {f : α → Bool} : allD (.vls (l.map fun a => D.bl (f a))) s = .ok (.bl (l.all f)) s := by
  have := all_vls (s := s) (bs := l.map f)
  rw [List.map_map, List.all_map] at this
  exact this
theorem any_mapV {α : Type} {l : List α} {f : α → Bool} : anyD (.vls (l.map fun a => D.bl (f a))) s = .ok (.bl (l.any f)) s := by
  have := any_vls (s := s) (bs := l.map f)
  rw [List.map_map, List.any_map] at this
  exact this
theorem lenD_vls (ds : List D) : lenD (.vls ds) s = .ok (.int (ds.length : Int)) s := rfl
theorem lenD_flst (ds : List D) : lenD (.flst ds) s = .ok (.int (ds.length : Int)) s := rfl
theorem ixD_vls (ds : List D) (y : D) : ixD (.vls ds) y s = ixS ds y s := rfl
theorem listF_tup (ds : List D) : listF (.tup ds) s = .ok (.vls ds) s := rfl
theorem listF_vls (ds : List D) : listF (.vls ds) s = .ok (.vls ds) s := rfl
theorem listF_flst (ds : List D) : listF (.flst ds) s = .ok (.vls ds) s := rfl
theorem listF_lst {k : Nat} {ds : List D} (e : s[k]? = some (.lst ds)) : listF (.ptr k) s = .ok (.vls ds) s := by
  show (match s[k]? with
    | some (.lst ds) => R.ok (D.vls ds) s
    | _ => .stuck) = _
  rw [e]
theorem tupleD_vls (ds : List D) : tupleD (.vls ds) s = .ok (.tup ds) s := rfl
theorem tupleD_tup (ds : List D) : tupleD (.tup ds) s = .ok (.tup ds) s := rfl
theorem tupleD_lst {k : Nat} {ds : List D} (e : s[k]? = some (.lst ds)) : tupleD (.ptr k) s = .ok (.tup ds) s := by
  show (match s[k]? with
    | some (.lst xs) => R.ok (D.tup xs) s
    | _ => .stuck) = _
  rw [e]
theorem srcD_vls (ds : List D) : srcD (.vls ds) s = .ok ⟨ds, none⟩ s := rfl
theorem lstF_run {ma : Env → M (List D)} {env : Env} : lstF ma env s = (ma env s).on fun ds s1 => if ds.length ≤ 100000 then .ok (.vls ds) s1 else .stuck := by
  show (ma env >>= _) s = _
  rw [bind_on]
  congr 1
  funext ds s1
  split <;> rfl
theorem cat_vls {a b : List D} (hz : a.length + b.length ≤ 100000) : addD (.vls a) (.vls b) s = .ok (.vls (a ++ b)) s := by
  show (if a.length + b.length ≤ 100000 then R.ok (D.vls (a ++ b)) s else .stuck) = _
  rw [if_pos hz]
theorem cat_tup {a b : List D} (hz : a.length + b.length ≤ 100000) : addD (.tup a) (.tup b) s = .ok (.tup (a ++ b)) s := by
  show (if a.length + b.length ≤ 100000 then (Pure.pure (D.tup (a ++ b)) : M D) else stuck) s = _
  rw [if_pos hz]
  rfl
theorem ix_p0 {p : Int × Int} : ixD (pD p) (.int 0) s = .ok (.int p.1) s := by
  unfold pD
  rw [ixD_tup, ixS_int, at0]
  rfl
theorem ix_p1 {p : Int × Int} : ixD (pD p) (.int 1) s = .ok (.int p.2) s := by
  unfold pD
  rw [ixD_tup, ixS_int, at1]
  rfl
theorem ibeq' (a b : Int) : (a == b) = decide (a = b) := by
  rw [Bool.eq_iff_iff]
  simp
theorem eq_pD {p q : Int × Int} : eqD (pD p) (pD q) s = .ok (.bl (decide (p = q))) s := by
  have e : eqD (pD p) (pD q) s = .ok (.bl (PyData.eqv (.tuple [.int p.1, .int p.2]) (.tuple [.int q.1, .int q.2]))) s := rfl
  rw [e]
  have h : PyData.eqv (.tuple [.int p.1, .int p.2]) (.tuple [.int q.1, .int q.2]) = decide (p = q) := by
    show ((p.1 == q.1) && ((p.2 == q.2) && true)) = _
    rw [Bool.and_true, ibeq', ibeq', Bool.eq_iff_iff]
    simp [Prod.ext_iff]
  rw [h]
theorem ne_pD {p q : Int × Int} : neD (pD p) (pD q) s = .ok (.bl (!decide (p = q))) s := by
  rw [neD_run, eq_pD, on_ok]
theorem append_run {k : Nat} {ds : List D} {d : D} {mo : PL.Env → M D} {ma : PL.Env → M (List D)} {env : PL.Env} {s1 : S} {ds0 : List D} (e0 : mo env s = .ok (.ptr k) s) (e : s[k]? = some (.lst ds0)) (e1 : ma env s = .ok [d] s1) (e2 : s1[k]? = some (.lst ds)) (hz : ds.length ≤ 100000) : methM appendD mo ma env s = .ok .non (s1.set k (.lst (ds ++ [d]))) := by
  unfold methM
  rw [bind_on, e0, on_ok, bind_on]
  have h1 : isL (.ptr k) s = .ok () s := by
    show (match s[k]? with
      | some (.lst _) => R.ok () s
      | _ => .stuck) = _
    rw [e]
  rw [h1, on_ok, bind_on, e1, on_ok]
  show (match s1[k]? with
    | some (.lst ds) => (if ds.length ≤ 100000 then putC k (.lst (ds ++ [d])) .non else stuck : M D) s1
    | _ => .stuck) = _
  rw [e2]
  show (if ds.length ≤ 100000 then putC k (.lst (ds ++ [d])) .non else stuck : M D) s1 = _
  rw [if_pos hz]
  rfl
theorem set_new {c c' : Cell} : (s ++ [c]).set s.length c' = s ++ [c'] := by
  rw [List.set_append_right _ _ (Nat.le_refl _), Nat.sub_self]
  rfl
theorem set_at {p : Nat} {c c' : Cell} (h : s[p]? = some c) : (s.set p c')[p]? = some c' := List.getElem?_set_self (List.getElem?_eq_some_iff.mp h).1
theorem lpop_run {k : Nat} {ds : List D} {d : D} (e : s[k]? = some (.lst (ds ++ [d]))) : lpopD (.ptr k) s = .ok d (s.set k (.lst ds)) := by
  unfold lpopD
  simp only [e]
  have e1 : (ds ++ [d])[(ds ++ [d]).length - 1]? = some d := by
    rw [List.length_append, List.length_singleton, Nat.add_sub_cancel, List.getElem?_append_right (Nat.le_refl _), Nat.sub_self]
    rfl
  simp only [e1, List.dropLast_concat]
theorem atI_neg {ds : List D} {j : Nat} {d : D} (h1 : 1 ≤ j) (h2 : j ≤ ds.length) (e : ds[ds.length - j]? = some d) : atI ds (-(j : Int)) = some d := by
  unfold atI ixN
  rw [if_neg (by omega)]
  split
  · rename_i h
    simp only [Option.bind_some]
    rw [show (-(j : Int) + (ds.length : Int)).toNat = ds.length - j by omega]
    exact e
  · omega
/-! ### slices -/
theorem cut_but_last {ds : List D} : cutD ds none (some (-1)) = ds.dropLast := by
  unfold cutD HT.sIx
  simp only []
  rw [if_pos (by decide), List.drop_zero, Nat.sub_zero, List.dropLast_eq_take]
  congr 1
  omega
theorem cut_from {ds : List D} {k : Nat} : cutD ds (some (k : Int)) none = ds.drop k := by
  unfold cutD HT.sIx
  simp only []
  rw [if_neg (by omega), Int.toNat_natCast]
  rcases Nat.le_total k ds.length with h | h
  · rw [Nat.min_eq_left h, List.take_of_length_le (by rw [List.length_drop]; omega)]
  · rw [Nat.min_eq_right h, List.drop_eq_nil_of_le h, List.drop_length, List.take_nil]
theorem cut_to {ds : List D} {k : Nat} : cutD ds none (some (k : Int)) = ds.take k := by
  unfold cutD HT.sIx
  simp only []
  rw [if_neg (by omega), Int.toNat_natCast, List.drop_zero, Nat.sub_zero]
  rcases Nat.le_total k ds.length with h | h
  · rw [Nat.min_eq_left h]
  · rw [Nat.min_eq_right h, List.take_of_length_le h, List.take_of_length_le (Nat.le_refl _)]
theorem cut_from1 {ds : List D} : cutD ds (some 1) none = ds.drop 1 := cut_from (k := 1)
theorem cut_to1 {ds : List D} : cutD ds none (some 1) = ds.take 1 := cut_to (k := 1)
theorem slM_run {ma : PL.Env → M D} {ml mh : PL.Env → M (Option Int)} {env : PL.Env} : slM ma ml mh env s = (ma env s).on fun x s1 => (ml env s1).on fun l s2 => (mh env s2).on fun h s3 => slD x l h s3 := by
  show (ma env >>= _) s = _
  rw [bind_on]
  congr 1
theorem noP_run {env : PL.Env} : noP env s = .ok none s := rfl
def inK (d : D) (s : S) : R (Option Int) := match d with
  | .int i => .ok (some i) s
  | _ => .stuck
theorem inPt_run {m : PL.Env → M D} {env : PL.Env} : inPt m env s = (m env s).on inK := by
  show (m env >>= _) s = _
  rw [bind_on]
  congr 1
  funext d s1
  cases d <;> rfl
theorem inK_int (i : Int) : inK (.int i) s = .ok (some i) s := rfl
theorem slD_tup (ds : List D) (lo hi : Option Int) : slD (.tup ds) lo hi s = .ok (.tup (cutD ds lo hi)) s := rfl
theorem slD_vls (ds : List D) (lo hi : Option Int) : slD (.vls ds) lo hi s = .ok (.vls (cutD ds lo hi)) s := rfl
theorem revD_tup (ds : List D) : revD (.tup ds) s = .ok (.tup ds.reverse) s := rfl
theorem revD_vls (ds : List D) : revD (.vls ds) s = .ok (.vls ds.reverse) s := rfl
/-! ### sets -/
theorem dPl_pD : ∀ ps : List (Int × Int), dPl (ps.map pD) = some ps
  | [] => rfl
  | p :: ps => by
    unfold dPl
    rw [List.map_cons]
    unfold mapO
    have ih := dPl_pD ps
    unfold dPl at ih
    rw [ih]
    rfl
theorem sset_run {d : D} {ps : List (Int × Int)} (e : seqD s d = some (ps.map pD)) (h : ps.length < 64) : ssetD d s = .ok (.vls ((sortU ps).map pD)) s := by
  unfold ssetD
  simp only [e, dPl_pD]
  rw [if_pos h]
/-! ### append, by equations -/
def isLk (s : S) : Option Cell → R Unit
  | some (.lst _) => .ok () s
  | _ => .stuck
def appK (k : Nat) (d : D) (s : S) : Option Cell → R D
  | some (.lst ds) => if ds.length ≤ 100000 then .ok .non (s.set k (.lst (ds ++ [d]))) else .stuck
  | _ => .stuck
theorem methA_run {mo : PL.Env → M D} {ma : PL.Env → M (List D)} {env : PL.Env} : methM appendD mo ma env s = (mo env s).on fun x s1 => (isL x s1).on fun _ s2 => (ma env s2).on fun ds s3 => appendD x ds s3 := by
  show (mo env >>= fun x => isL x >>= fun _ => ma env >>= fun ds => appendD x ds) s = _
  simp only [bind_on]
theorem isL_run {k : Nat} : isL (.ptr k) s = isLk s s[k]? := by
  show (match s[k]? with
    | some (.lst _) => R.ok () s
    | _ => .stuck) = _
  cases s[k]? with
  | none => rfl
  | some c => cases c <;> rfl
theorem isLk_l (ds : List D) : isLk s (some (.lst ds)) = .ok () s := rfl
theorem appD_run {k : Nat} {d : D} : appendD (.ptr k) [d] s = appK k d s s[k]? := by
  show (match s[k]? with
    | some (.lst ds) => (if ds.length ≤ 100000 then putC k (.lst (ds ++ [d])) .non else stuck : M D) s
    | _ => .stuck) = _
  cases s[k]? with
  | none => rfl
  | some c =>
    cases c with
    | lst ds =>
      show (if ds.length ≤ 100000 then putC k (.lst (ds ++ [d])) .non else stuck : M D) s = (if ds.length ≤ 100000 then _ else _)
      split <;> rfl
    | _ => rfl
theorem appK_le {k : Nat} {d : D} {ds : List D} (h : ds.length ≤ 100000) : appK k d s (some (.lst ds)) = .ok .non (s.set k (.lst (ds ++ [d]))) := if_pos h
theorem tupK_0 : tupK [] s = .ok (.tup []) s := rfl
end
end PL

/-! EQN: ==, != and in of data that is written down by a function. -/
namespace PL
open PySem PySem.Spec PyProof.Rows L2
/-- enc writes things down as data; py: as what == looks at -/
structure Enc {α : Type} [DecidableEq α] (enc : α → D) (py : α → PyData) (n : Nat) : Prop where
  to : ∀ (s : S) (k : Nat) (a : α), n < k → toPy s k (enc a) = some (py a)
  lay : ∀ a, (py a).canLay0 = true
  dep : ∀ a, (py a).depth ≤ n
  eqv : ∀ a b, (py a).eqv (py b) = decide (a = b)
section
variable {α β : Type} [DecidableEq α] [DecidableEq β] {enc : α → D} {py : α → PyData} {n : Nat} {enc2 : β → D} {py2 : β → PyData} {m : Nat}
theorem enc_int : Enc D.int PyData.int 0 := ⟨fun s k a h => by
  cases k with
  | zero => omega
  | succ k => rfl, fun a => by rw [PyData.canLay0], fun a => by rw [PyData.depth]; exact Nat.le_refl _, fun a b => by
  rw [PyData.eqv]
  exact ibeq' a b⟩
theorem enc_bl : Enc D.bl PyData.bool 0 := ⟨fun s k a h => by
  cases k with
  | zero => omega
  | succ k => rfl, fun a => by rw [PyData.canLay0], fun a => by rw [PyData.depth]; exact Nat.le_refl _, fun a b => by
  rw [PyData.eqv]
  cases a <;> cases b <;> rfl⟩
theorem mapO_enc (h : Enc enc py n) {s : S} {k : Nat} (hk : n < k) : ∀ l : List α, mapO (toPy s k) (l.map enc) = some (l.map py)
  | [] => rfl
  | a :: l => by
    rw [List.map_cons]
    unfold mapO
    rw [h.to s k a hk, mapO_enc h hk l]
    rfl
theorem lay_enc (h : Enc enc py n) : ∀ l : List α, PyData.canLayAll0 (l.map py) = true
  | [] => by rw [List.map_nil, PyData.canLayAll0]
  | a :: l => by rw [List.map_cons, PyData.canLayAll0, h.lay, lay_enc h l]; rfl
theorem dep_enc (h : Enc enc py n) : ∀ l : List α, PyData.depthAll (l.map py) ≤ n
  | [] => by rw [List.map_nil, PyData.depthAll]; exact Nat.zero_le _
  | a :: l => by
    rw [List.map_cons, PyData.depthAll]
    exact Nat.max_le.mpr ⟨h.dep a, dep_enc h l⟩
theorem eqv_enc (h : Enc enc py n) : ∀ l k : List α, PyData.eqvAll (l.map py) (k.map py) = decide (l = k)
  | [], [] => by rw [List.map_nil, PyData.eqvAll]; rfl
  | [], b :: k => by
    rw [List.map_nil, List.map_cons, PyData.eqvAll]
    exact (decide_eq_false (by simp)).symm
  | a :: l, [] => by
    rw [List.map_nil, List.map_cons]
    rw [PyData.eqvAll.eq_def]
    exact (decide_eq_false (by simp)).symm
  | a :: l, b :: k => by
    rw [List.map_cons, List.map_cons, PyData.eqvAll, h.eqv, eqv_enc h l k, Bool.eq_iff_iff]
    simp
theorem enc_tups (h : Enc enc py n) : Enc (fun l : List α => D.tup (l.map enc)) (fun l => .tuple (l.map py)) (n + 1) := ⟨fun s k l hk => by
  cases k with
  | zero => omega
  | succ k =>
    show (mapO (toPy s k) (l.map enc)).map PyData.tuple = _
    rw [mapO_enc h (by omega)]
    rfl, fun l => by rw [PyData.canLay0]; exact lay_enc h l, fun l => by
  rw [PyData.depth]
  exact Nat.succ_le_succ (dep_enc h l), fun l k => by
  rw [PyData.eqv]
  exact eqv_enc h l k⟩
theorem enc_vls (h : Enc enc py n) : Enc (fun l : List α => D.vls (l.map enc)) (fun l => .list (l.map py)) (n + 1) := ⟨fun s k l hk => by
  cases k with
  | zero => omega
  | succ k =>
    show (mapO (toPy s k) (l.map enc)).map PyData.list = _
    rw [mapO_enc h (by omega)]
    rfl, fun l => by rw [PyData.canLay0]; exact lay_enc h l, fun l => by
  rw [PyData.depth]
  exact Nat.succ_le_succ (dep_enc h l), fun l k => by
  rw [PyData.eqv]
  exact eqv_enc h l k⟩
theorem enc_pair (h : Enc enc py n) (k : Enc enc2 py2 m) : Enc (fun p : α × β => D.tup [enc p.1, enc2 p.2]) (fun p => .tuple [py p.1, py2 p.2]) (max n m + 1) := ⟨fun s j p hj => by
  cases j with
  | zero => omega
  | succ j =>
    show (mapO (toPy s j) [enc p.1, enc2 p.2]).map PyData.tuple = _
    unfold mapO
    rw [h.to s j p.1 (by omega)]
    unfold mapO
    rw [k.to s j p.2 (by omega)]
    rfl, fun p => by
  rw [PyData.canLay0, PyData.canLayAll0, PyData.canLayAll0, PyData.canLayAll0, h.lay, k.lay]
  rfl, fun p => by
  rw [PyData.depth, PyData.depthAll, PyData.depthAll, PyData.depthAll]
  have := h.dep p.1
  have := k.dep p.2
  omega, fun p q => by
  rw [PyData.eqv, PyData.eqvAll, PyData.eqvAll, PyData.eqvAll, h.eqv, k.eqv, Bool.and_true, Bool.eq_iff_iff]
  simp [Prod.ext_iff]⟩
theorem enc_pD : Enc pD (fun p => .tuple [.int p.1, .int p.2]) 1 := enc_pair enc_int enc_int
theorem shaped_enc (h : Enc enc py n) (hn : n ≤ 60) (a : α) : SeqAt.shaped (py a) = true := by
  unfold SeqAt.shaped
  rw [h.lay a, Bool.true_and]
  have := h.dep a
  exact decide_eq_true (by omega)
/-! ### == -/
variable {s : S}
theorem eqD_of {x y : D} {p q : PyData} (h : eqD x y s = match toPy s 12 x, toPy s 12 y with
    | some p, some q => if (SeqAt.shaped p && SeqAt.shaped q) = true then R.ok (.bl (PyData.eqv p q)) s else .stuck
    | _, _ => .stuck) (hx : toPy s 12 x = some p) (hy : toPy s 12 y = some q) (sx : SeqAt.shaped p = true) (sy : SeqAt.shaped q = true) : eqD x y s = .ok (.bl (PyData.eqv p q)) s := by
  rw [h, hx, hy]
  simp only []
  rw [sx, sy]
  rfl
theorem eq_tups (h : Enc enc py n) (hn : n ≤ 10) (l k : List α) : eqD (.tup (l.map enc)) (.tup (k.map enc)) s = .ok (.bl (decide (l = k))) s := by
  have e := enc_tups h
  rw [eqD_of rfl (e.to s 12 l (by omega)) (e.to s 12 k (by omega)) (shaped_enc e (by omega) l) (shaped_enc e (by omega) k), e.eqv]
theorem eq_vls (h : Enc enc py n) (hn : n ≤ 10) (l k : List α) : eqD (.vls (l.map enc)) (.vls (k.map enc)) s = .ok (.bl (decide (l = k))) s := by
  have e := enc_vls h
  rw [eqD_of rfl (e.to s 12 l (by omega)) (e.to s 12 k (by omega)) (shaped_enc e (by omega) l) (shaped_enc e (by omega) k), e.eqv]
theorem toPy_cell {k j : Nat} {ds : List D} (e : s[j]? = some (.lst ds)) : toPy s (k + 1) (.ptr j) = (mapO (toPy s k) ds).map .list := by
  show (match s[j]? with
      | some (.lst ds) => (mapO (toPy s k) ds).map PyData.list
      | _ => none) = _
  rw [e]
theorem eq_cell_vls (h : Enc enc py n) (hn : n ≤ 10) {j : Nat} {l k : List α} (e : s[j]? = some (.lst (l.map enc))) : eqD (.ptr j) (.vls (k.map enc)) s = .ok (.bl (decide (l = k))) s := by
  have e1 := enc_vls h
  have e2 : toPy s 12 (.ptr j) = some (.list (l.map py)) := by
    rw [toPy_cell (k := 11) e, mapO_enc h (by omega)]
    rfl
  rw [eqD_of rfl e2 (e1.to s 12 k (by omega)) (shaped_enc e1 (by omega) l) (shaped_enc e1 (by omega) k), ← e1.eqv]
theorem ne_tups (h : Enc enc py n) (hn : n ≤ 10) (l k : List α) : neD (.tup (l.map enc)) (.tup (k.map enc)) s = .ok (.bl (!decide (l = k))) s := by
  rw [neD_run, eq_tups h hn, on_ok]
theorem ne_vls (h : Enc enc py n) (hn : n ≤ 10) (l k : List α) : neD (.vls (l.map enc)) (.vls (k.map enc)) s = .ok (.bl (!decide (l = k))) s := by
  rw [neD_run, eq_vls h hn, on_ok]
theorem ne_cell_vls (h : Enc enc py n) (hn : n ≤ 10) {j : Nat} {l k : List α} (e : s[j]? = some (.lst (l.map enc))) : neD (.ptr j) (.vls (k.map enc)) s = .ok (.bl (!decide (l = k))) s := by
  rw [neD_run, eq_cell_vls h hn e, on_ok]
/-! ### in -/
theorem any_eqv (h : Enc enc py n) (a : α) : ∀ l : List α, ((l.map py).any fun z => PyData.eqv z (py a)) = decide (a ∈ l)
  | [] => by simp
  | b :: l => by
    rw [List.map_cons, List.any_cons, any_eqv h a l, h.eqv, Bool.eq_iff_iff]
    simp
    constructor
    · rintro (h | h)
      · exact .inl h.symm
      · exact .inr h
    · rintro (h | h)
      · exact .inl h.symm
      · exact .inr h
theorem in_vls (h : Enc enc py n) (hn : n ≤ 10) (a : α) (l : List α) : inD (enc a) (.vls (l.map enc)) s = .ok (.bl (decide (a ∈ l))) s := by
  have e1 := enc_vls h
  show inP s (enc a) (toPy s 13 (.vls (l.map enc))) = _
  unfold inP
  rw [h.to s 12 a (by omega), e1.to s 13 l (by omega)]
  simp only []
  rw [shaped_enc h (by omega), shaped_enc e1 (by omega), any_eqv h]
  rfl
theorem in_cell (h : Enc enc py n) (hn : n ≤ 10) {j : Nat} (a : α) {l : List α} (e : s[j]? = some (.lst (l.map enc))) : inD (enc a) (.ptr j) s = .ok (.bl (decide (a ∈ l))) s := by
  have e1 := enc_vls h
  have e2 : toPy s 13 (.ptr j) = some (.list (l.map py)) := by
    rw [toPy_cell (k := 12) e, mapO_enc h (by omega)]
    rfl
  show (match s[j]? with
    | some (.dK kvs) => (match dKey (enc a) with
      | some k => R.ok (D.bl (valD kvs k).isSome) s
      | none => R.stuck)
    | some (.lst ds) => inP s (enc a) (toPy s 13 (.ptr j))
    | _ => R.stuck) = _
  rw [e]
  simp only []
  unfold inP
  rw [h.to s 12 a (by omega), e2]
  simp only []
  rw [shaped_enc h (by omega), shaped_enc e1 (by omega), any_eqv h]
  rfl
end
end PL

/-! RN2: run equations of dicts with tuple keys, zip, lcm, comprehensions of two parts. -/
namespace PL
open PySem PySem.Spec PyProof.Rows L2
section
variable {s : S} {env : PL.Env}
theorem gTup4 (gs : List D → PL.Env → M PL.Env) (a b c d : D) : gTupM 4 gs (.tup [a, b, c, d]) env s = gs [a, b, c, d] env s := rfl
theorem gTup5 (gs : List D → PL.Env → M PL.Env) (a b c d e : D) : gTupM 5 gs (.tup [a, b, c, d, e]) env s = gs [a, b, c, d, e] env s := rfl
def keyK (ds : List D) (s : S) : R (List L2.Key) := match mapO dKey ds with
  | some ks => if ds.length ≤ 100000 then .ok ks s else .stuck
  | none => .stuck
theorem keyM_run {mr : PL.Env → M (List D)} : keyM mr env s = (mr env s).on keyK := by
  show (mr env >>= _) s = _
  rw [bind_on]
  congr 1
  funext ds s1
  unfold keyK
  cases mapO dKey ds with
  | none => rfl
  | some ks =>
    simp only []
    split <;> rfl
theorem keyK3 (a b c : Int) : keyK [.int a, .int b, .int c] s = .ok [.inl a, .inl b, .inl c] s := rfl
theorem keyK2 (a b : Int) : keyK [.int a, .int b] s = .ok [.inl a, .inl b] s := rfl
theorem tNil_run : tNil env s = .ok [] s := rfl
theorem tCons_run {mk : PL.Env → M (List L2.Key)} {mv : PL.Env → M D} {mr : PL.Env → M (List (List L2.Key × D))} : tCons mk mv mr env s = (mk env s).on fun k s1 => (mv env s1).on fun v s2 => (mr env s2).on fun r s3 => .ok ((k, v) :: r) s3 := by
  show (mk env >>= fun k => mv env >>= fun v => mr env >>= fun r => (Pure.pure ((k, v) :: r) : M (List (List L2.Key × D)))) s = _
  simp only [bind_on]
  rfl
def fillK (n : Nat) (ds : List (List L2.Key × D)) (s : S) : Option Cell → R D
  | some (.dT []) => if ds.length ≤ 15 then .ok (.ptr n) (s.set n (.dT (mergeTD [] ds))) else .stuck
  | _ => .stuck
theorem fillT_run {n : Nat} {ds : List (List L2.Key × D)} : fillT n ds s = fillK n ds s s[n]? := rfl
theorem fillK_le {n : Nat} {ds : List (List L2.Key × D)} (h : ds.length ≤ 15) : fillK n ds s (some (.dT [])) = .ok (.ptr n) (s.set n (.dT (mergeTD [] ds))) := if_pos h
theorem dispTM_run {mr : PL.Env → M (List (List L2.Key × D))} : dispTM mr env s = (mr env (s ++ [.dT []])).on fun ps s2 => fillK s.length ps s2 s2[s.length]? := by
  show (mr env >>= fun ps => fillT s.length ps) (s ++ [.dT []]) = _
  rw [bind_on]
  rfl
def setTK (n : Nat) (k : List L2.Key) (v : D) (s : S) : Option Cell → R Unit
  | some (.dT kvs) => if kvs.length < 100000 then .ok () (s.set n (.dT (putTD kvs k v))) else .stuck
  | _ => .stuck
theorem setTD_run {n : Nat} {k : List L2.Key} {v : D} : setTD (.ptr n) k v s = setTK n k v s s[n]? := by
  show (match s[n]? with
    | some (.dT kvs) => if kvs.length < 100000 then R.ok () (s.set n (.dT (putTD kvs k v))) else .stuck
    | _ => .stuck) = _
  cases s[n]? with
  | none => rfl
  | some c => cases c <;> rfl
theorem setTK_le {n : Nat} {k : List L2.Key} {v : D} {kvs : List (List L2.Key × D)} (h : kvs.length < 100000) : setTK n k v s (some (.dT kvs)) = .ok () (s.set n (.dT (putTD kvs k v))) := if_pos h
theorem gSubT_run {mo : PL.Env → M D} {mk : PL.Env → M (List L2.Key)} {v : D} : gSubT mo mk v env s = (mo env s).on fun o s1 => (mk env s1).on fun k s2 => (setTD o k v s2).on fun _ s3 => .ok env s3 := by
  show (mo env >>= fun o => mk env >>= fun k => setTD o k v >>= fun _ => (Pure.pure env : M PL.Env)) s = _
  simp only [bind_on]
  rfl
def listTK (s : S) : Option Cell → R D
  | some (.dT kvs) => .ok (.vls (kvs.map fun kv => .tup (kv.1.map keyD))) s
  | _ => .stuck
theorem listT_run {n : Nat} : listT (.ptr n) s = listTK s s[n]? := by
  show (match s[n]? with
    | some (.dT kvs) => R.ok (D.vls (kvs.map fun (kv : List L2.Key × D) => D.tup (kv.1.map keyD))) s
    | _ => .stuck) = _
  cases s[n]? with
  | none => rfl
  | some c => cases c <;> rfl
theorem listTK_t (kvs : List (List L2.Key × D)) : listTK s (some (.dT kvs)) = .ok (.vls (kvs.map fun kv => .tup (kv.1.map keyD))) s := rfl
theorem zipD_tt (xs ys : List D) : zipD [.tup xs, .tup ys] s = .ok ⟨zipI xs ys, none⟩ s := rfl
theorem zipD_vv (xs ys : List D) : zipD [.vls xs, .vls ys] s = .ok ⟨zipI xs ys, none⟩ s := rfl
theorem lcm4D_run {a b c d : Int} (ha : Bt 1000 a) (hb : Bt 1000 b) (hc : Bt 1000 c) (hd : Bt 1000 d) : lcm4D [.int a, .int b, .int c, .int d] s = .ok (.int (lcm4 a b c d : Nat)) s := if_pos ⟨ha, hb, hc, hd⟩
theorem coll2_enc {α β : Type} {enc : α → D} {enc2 : β → D} {inn : α → List β} {out : α → β → D} {g g1 : D → PL.Env → M PL.Env} {mi1 : PL.Env → M Src} {e : PL.Env → M D} {vs1 : List Nat} {env0 : PL.Env} {r : Src} (ok : r.Ok s) : ∀ l : List α,
    (∀ a ∈ l, ∃ env2, g (enc a) env0 s = .ok env2 s ∧ mi1 env2 s = .ok ⟨(inn a).map enc2, none⟩ s ∧ (inn a).length ≤ 4000 ∧ ∀ b ∈ inn a, turnC g1 yesT e (wipeE env2 vs1) (enc2 b) s = .ok (out a b) s) →
    coll2M r g yesT mi1 g1 yesT e vs1 env0 (l.map enc) s = .ok (l.flatMap fun a => (inn a).map (out a)) s
  | [], _ => by
    show (guardM r >>= fun _ => (Pure.pure [] : M (List D))) s = _
    rw [bind_on, guard_pos ok]
    rfl
  | a :: l, h => by
    obtain ⟨env2, h1, h2, h3, h4⟩ := h a List.mem_cons_self
    have ih := coll2_enc (r := r) ok l fun x hx => h x (List.mem_cons_of_mem _ hx)
    have hc := coll_enc (r := ⟨(inn a).map enc2, none⟩) (s := s) trivial h4
    show (guardM r >>= fun _ => g (enc a) env0 >>= fun env => yesT env >>= fun b => if b then mi1 env >>= fun r1 => sz4M r1.items.length >>= fun _ => collM r1 g1 yesT e (wipeE env vs1) r1.items >>= fun xs => coll2M r g yesT mi1 g1 yesT e vs1 env0 (l.map enc) >>= fun ys => Pure.pure (xs ++ ys) else coll2M r g yesT mi1 g1 yesT e vs1 env0 (l.map enc)) s = _
    rw [bind_on, guard_pos ok, on_ok, bind_on, h1, on_ok]
    show (mi1 env2 >>= fun r1 => sz4M r1.items.length >>= fun _ => collM r1 g1 yesT e (wipeE env2 vs1) r1.items >>= fun xs => coll2M r g yesT mi1 g1 yesT e vs1 env0 (l.map enc) >>= fun ys => Pure.pure (xs ++ ys)) s = _
    have hz : (sz4M ((inn a).map enc2).length : M Unit) = Pure.pure () := by
      unfold sz4M
      rw [List.length_map, if_pos h3]
    rw [bind_on, h2, on_ok, bind_on, hz]
    show (collM ⟨(inn a).map enc2, none⟩ g1 yesT e (wipeE env2 vs1) ((inn a).map enc2) >>= _) s = _
    rw [bind_on, hc, on_ok, bind_on, ih, on_ok, List.flatMap_cons]
    rfl
theorem comp2F_enc {α β : Type} {enc : α → D} {enc2 : β → D} {inn : α → List β} {out : α → β → D} {l : List α} {mi : PL.Env → M Src} {g g1 : D → PL.Env → M PL.Env} {mi1 : PL.Env → M Src} {e : PL.Env → M D} {vs vs1 : List Nat} {c : Option (Nat × List D)}
    (h0 : mi env s = .ok ⟨l.map enc, c⟩ s) (ok : (⟨l.map enc, c⟩ : Src).Ok s) (hz : l.length ≤ 4000) (h : ∀ a ∈ l, ∃ env2, g (enc a) (wipeE env vs) s = .ok env2 s ∧ mi1 env2 s = .ok ⟨(inn a).map enc2, none⟩ s ∧ (inn a).length ≤ 4000 ∧ ∀ b ∈ inn a, turnC g1 yesT e (wipeE env2 vs1) (enc2 b) s = .ok (out a b) s) :
    comp2F mi g yesT mi1 g1 yesT e vs vs1 env s = .ok (.vls (l.flatMap fun a => (inn a).map (out a))) s := by
  unfold comp2F
  have hz : (sz4M (l.map enc).length : M Unit) = Pure.pure () := by
    unfold sz4M
    rw [List.length_map, if_pos hz]
  rw [bind_on, h0, on_ok, bind_on, hz]
  show (coll2M ⟨l.map enc, c⟩ g yesT mi1 g1 yesT e vs1 (wipeE env vs) (l.map enc) >>= _) s = _
  exact bind_ok (coll2_enc (r := ⟨l.map enc, c⟩) ok l h)
end
end PL

/-! RN3: dicts with keys, instances, walks over locked dicts: how they run. -/
namespace PL
open PySem PySem.Spec PyProof.Rows L2
section
variable {s : S}
/-! ### reading -/
def ixC (y : D) (s : S) : Option Cell → R D
  | some (.lst ds) => ixS ds y s
  | some (.dK kvs) => ixK kvs y s
  | some (.fK kvs) => ixK kvs y s
  | _ => .stuck
theorem ixD_ptr (k : Nat) (y : D) : ixD (.ptr k) y s = ixC y s s[k]? := by
  show (match s[k]? with
    | some (.lst ds) => ixS ds y s
    | some (.dK kvs) => ixK kvs y s
    | some (.fK kvs) => ixK kvs y s
    | _ => .stuck) = _
  unfold ixC
  rfl
theorem ixC_l (y : D) (ds : List D) : ixC y s (some (.lst ds)) = ixS ds y s := rfl
theorem ixC_k (y : D) (kvs : List (L2.Key × D)) : ixC y s (some (.dK kvs)) = ixK kvs y s := rfl
theorem ixC_f (y : D) (kvs : List (L2.Key × D)) : ixC y s (some (.fK kvs)) = ixK kvs y s := rfl
theorem ixK_val {kvs : List (L2.Key × D)} {x : Str} {d : D} (h : valD kvs (.inr x) = some d) : ixK kvs (.str x) s = .ok d s := by
  show (match valD kvs (.inr x) with
    | some d => (Pure.pure d : M D)
    | none => stuck) s = _
  rw [h]
  rfl
def inC (k : L2.Key) (s : S) : Option Cell → R D
  | some (.dK kvs) => .ok (.bl (valD kvs k).isSome) s
  | _ => .stuck
theorem inD_ptrs (x : Str) (k : Nat) (kvs : List (L2.Key × D)) (e : s[k]? = some (.dK kvs)) : inD (.str x) (.ptr k) s = .ok (.bl (valD kvs (.inr x)).isSome) s := by
  show (match s[k]? with
    | some (.dK kvs) => (match dKey (.str x) with
      | some k => R.ok (D.bl (valD kvs k).isSome) s
      | none => .stuck)
    | some (.lst ds) => inP s (.str x) (toPy s 13 (.ptr k))
    | _ => .stuck) = _
  rw [e]
  rfl
def lenC (s : S) : Option Cell → R D
  | some (.lst ds) => .ok (.int ds.length) s
  | some (.dK kvs) => .ok (.int kvs.length) s
  | _ => .stuck
theorem lenD_ptr (k : Nat) : lenD (.ptr k) s = lenC s s[k]? := by
  show (match s[k]? with
    | some (.lst ds) => R.ok (D.int ds.length) s
    | some (.dK kvs) => .ok (.int kvs.length) s
    | _ => .stuck) = _
  unfold lenC
  rfl
theorem lenC_k (kvs : List (L2.Key × D)) : lenC s (some (.dK kvs)) = .ok (.int kvs.length) s := rfl
def dictC (s : S) : Option Cell → R D
  | some (.dK kvs) => .ok (.ptr s.length) (s ++ [.dK kvs])
  | _ => .stuck
theorem dictD_ptr (k : Nat) : dictD (.ptr k) s = dictC s s[k]? := by
  show (match s[k]? with
    | some (.dK kvs) => allocC (.dK kvs) s
    | _ => R.stuck) = _
  unfold dictC
  rfl
theorem dictC_k (kvs : List (L2.Key × D)) : dictC s (some (.dK kvs)) = .ok (.ptr s.length) (s ++ [.dK kvs]) := rfl
/-! ### writing -/
def setC (k : Nat) (i v : D) (s : S) : Option Cell → R Unit
  | some (.lst ds) => putL ds i v k s
  | some (.dK kvs) => (match dKey i with
      | some q => if kvs.length < 100000 then .ok () (s.set k (.dK (putKD kvs q v))) else .stuck
      | none => .stuck)
  | _ => .stuck
theorem setXD_ptr (k : Nat) (i v : D) : setXD (.ptr k) i v s = setC k i v s s[k]? := by
  show (match s[k]? with
    | some (.lst ds) => putL ds i v k s
    | some (.dK kvs) => (match dKey i with
      | some q => if kvs.length < 100000 then R.ok () (s.set k (.dK (putKD kvs q v))) else .stuck
      | none => .stuck)
    | _ => .stuck) = _
  unfold setC
  rfl
theorem setC_k {k : Nat} {x : Str} {v : D} {kvs : List (L2.Key × D)} (h : kvs.length < 100000) : setC k (.str x) v s (some (.dK kvs)) = .ok () (s.set k (.dK (putKD kvs (.inr x) v))) := if_pos h
theorem allocC_run (c : Cell) : allocC c s = .ok (.ptr s.length) (s ++ [c]) := rfl
/-! ### displays -/
theorem pNil_run {env : PL.Env} : pNil env s = .ok [] s := rfl
theorem pCons_run {mk mv : PL.Env → M D} {mr : PL.Env → M (List (D × D))} {env : PL.Env} : pCons mk mv mr env s = (mk env s).on fun k s1 => (mv env s1).on fun v s2 => (mr env s2).on fun r s3 => .ok ((k, v) :: r) s3 := by
  show (mk env >>= fun k => mv env >>= fun v => mr env >>= fun r => (Pure.pure ((k, v) :: r) : M (List (D × D)))) s = _
  simp only [bind_on]
  rfl
def dispK (n : Nat) (ps : List (D × D)) (s : S) : Option Cell → R D
  | some (.dK []) => (match dKeys ps with
    | some kvs => if kvs.length ≤ 15 then .ok (.ptr n) (s.set n (.dK (mergeKD [] kvs))) else .stuck
    | none => .stuck)
  | _ => .stuck
theorem fillC_run (n : Nat) (ps : List (D × D)) : fillC n ps s = dispK n ps s s[n]? := by
  unfold fillC dispK
  cases e : s[n]? with
  | none => simp only [e]
  | some c =>
    cases c with
    | dK kvs =>
      cases kvs with
      | nil => cases h : dKeys ps <;> simp only [e, h]
      | cons a l => cases h : dKeys ps <;> simp only [e, h]
    | lst ds => simp only [e]
    | dT kvs => simp only [e]
    | ins C fs => simp only [e]
    | fK kvs => simp only [e]
theorem dispM_run {mr : PL.Env → M (List (D × D))} {env : PL.Env} : dispM mr env s = (mr env (s ++ [.dK []])).on fun ps s2 => dispK s.length ps s2 s2[s.length]? := by
  show (allocC (.dK []) >>= _) s = _
  rw [bind_on]
  show (mr env >>= fun ps => fillC s.length ps) (s ++ [.dK []]) = _
  rw [bind_on]
  congr 1
  funext ps s2
  exact fillC_run _ _
/-! ### instances -/
def fldK (f C : Str) (s : S) : Option Cell → R D
  | some (.ins C' fs) => if C' = C then (match fs.lookup f with
    | some d => .ok d s
    | none => .stuck) else .stuck
  | _ => .stuck
theorem fldD_ptr {C f : Str} {n : Nat} : fldD C f (.ptr n) s = fldK f C s s[n]? := by
  unfold fldD withI fldK
  simp only []
  all_goals
    cases s[n]? with
    | none => rfl
    | some c =>
      cases c with
      | ins C' fs =>
        by_cases h : C' = C
        · simp only [if_pos h]
          cases fs.lookup f <;> rfl
        · simp only [if_neg h]
      | _ => rfl
theorem fldK_ins {C f : Str} {fs : List (Str × D)} {d : D} (h : fs.lookup f = some d) : fldK f C s (some (.ins C fs)) = .ok d s := by
  show (if C = C then (match fs.lookup f with
    | some d => R.ok d s
    | none => .stuck) else .stuck) = _
  rw [if_pos rfl, h]
theorem fldS_run {C f : Str} {mv mo : PL.Env → M D} {env : PL.Env} : fldS C f mv mo env s = (mv env s).on fun v s1 => (mo env s1).on fun x s2 => (setF C f v x s2).on fun _ s3 => .ok (.nx env) s3 := by
  show (mv env >>= fun v => mo env >>= fun x => setF C f v x >>= fun _ => (Pure.pure (.nx env) : M Out)) s = _
  simp only [bind_on]
  rfl
def setK (f C : Str) (v : D) (n : Nat) (s : S) : Option Cell → R Unit
  | some (.ins C' fs) => if C' = C then (if fs.length < 1000 then .ok () (s.set n (.ins C (putFD f v fs))) else .stuck) else .stuck
  | _ => .stuck
theorem setF_ptr {C f : Str} {v : D} {n : Nat} : setF C f v (.ptr n) s = setK f C v n s s[n]? := by
  unfold setF withI setK
  simp only []
  all_goals
    cases s[n]? with
    | none => rfl
    | some c =>
      cases c with
      | ins C' fs =>
        by_cases h : C' = C
        · simp only [if_pos h]
        · simp only [if_neg h]
      | _ => rfl
theorem setK_ins {C f : Str} {v : D} {n : Nat} {fs : List (Str × D)} (h : fs.length < 1000) : setK f C v n s (some (.ins C fs)) = .ok () (s.set n (.ins C (putFD f v fs))) := by
  show (if C = C then (if fs.length < 1000 then R.ok () (s.set n (.ins C (putFD f v fs))) else .stuck) else .stuck) = _
  rw [if_pos rfl, if_pos h]
def noK (m C : Str) (s : S) : Option Cell → R Unit
  | some (.ins C' fs) => if C' = C then (match fs.lookup m with
    | none => .ok () s
    | some _ => .stuck) else .stuck
  | _ => .stuck
theorem noF_ptr {C m : Str} {n : Nat} : noF C m (.ptr n) s = noK m C s s[n]? := by
  unfold noF withI noK
  simp only []
  all_goals
    cases s[n]? with
    | none => rfl
    | some c =>
      cases c with
      | ins C' fs =>
        by_cases h : C' = C
        · simp only [if_pos h]
          cases e : fs.lookup m with
          | none => simp
          | some d => simp
        · simp only [if_neg h]
      | _ => rfl
theorem noK_ins {C m : Str} {fs : List (Str × D)} (h : fs.lookup m = none) : noK m C s (some (.ins C fs)) = .ok () s := by
  show (if C = C then (match fs.lookup m with
    | none => R.ok () s
    | some _ => .stuck) else .stuck) = _
  rw [if_pos rfl, h]
theorem methI_run {C m : Str} {n : Nat} {F : List D → M D} {mo : PL.Env → M D} {ma : PL.Env → M (List D)} {env : PL.Env} : methI C m n F mo ma env s = (mo env s).on fun x s1 => (noF C m x s1).on fun _ s2 => (ma env s2).on fun ds s3 => lenM n F (x :: ds) s3 := by
  show (mo env >>= fun x => noF C m x >>= fun _ => ma env >>= fun ds => lenM n F (x :: ds)) s = _
  simp only [bind_on]
def mkK (n : Nat) (d : D) (s : S) : R D := match d with
  | .non => .ok (.ptr n) s
  | _ => .stuck
theorem makeI_run {C : Str} {n : Nat} {F : List D → M D} {ma : PL.Env → M (List D)} {env : PL.Env} : makeI C n F ma env s = (ma env s).on fun ds s1 => (lenM n F (.ptr s1.length :: ds) (s1 ++ [.ins C []])).on (mkK s1.length) := by
  show (ma env >>= _) s = _
  rw [bind_on]
  congr 1
  funext ds s1
  show (lenM n F (.ptr s1.length :: ds) >>= fun r => match r with
    | .non => (Pure.pure (D.ptr s1.length) : M D)
    | _ => stuck) (s1 ++ [.ins C []]) = _
  rw [bind_on]
  congr 1
  funext r s2
  cases r <;> rfl
theorem mkK_non (n : Nat) : mkK n .non s = .ok (.ptr n) s := rfl
/-! ### walks over locked dicts -/
theorem srcKM_run {m : PL.Env → M D} {env : PL.Env} : srcKM m env s = (m env s).on fun d s1 => srcK d s1 := by
  show (m env >>= srcK) s = _
  rw [bind_on]
def srcKC (s : S) : Option Cell → R Src
  | some (.fK kvs) => .ok ⟨kvs.map fun kv => keyD kv.1, none⟩ s
  | _ => .stuck
theorem srcK_ptr (k : Nat) : srcK (.ptr k) s = srcKC s s[k]? := by
  unfold srcK srcKC
  simp only []
  all_goals
    cases s[k]? with
    | none => rfl
    | some c => cases c <;> rfl
theorem srcKC_f (kvs : List (L2.Key × D)) : srcKC s (some (.fK kvs)) = .ok ⟨kvs.map fun kv => keyD kv.1, none⟩ s := rfl
def lockK (n : Nat) (m : PL.Env → M Out) (env : PL.Env) (s : S) : Option Cell → R Out
  | some (.dK kvs) => unlD n kvs (m env (s.set n (.fK kvs)))
  | _ => .stuck
theorem lockS_run {me : PL.Env → M D} {m : PL.Env → M Out} {env : PL.Env} {n : Nat} {s1 : S} (h : me env s = .ok (.ptr n) s1) : lockS me m env s = lockK n m env s s[n]? := by
  unfold lockS
  rw [h]
  rfl
theorem lockK_k (n : Nat) (m : PL.Env → M Out) (env : PL.Env) (kvs : List (L2.Key × D)) : lockK n m env s (some (.dK kvs)) = unlD n kvs (m env (s.set n (.fK kvs))) := rfl
theorem unlD_ok (n : Nat) (kvs : List (L2.Key × D)) (o : Out) : unlD n kvs (.ok o s) = .ok o (s.set n (.dK kvs)) := rfl
/-! ### sorted names -/
theorem sortAny_dict {k : Nat} {kvs : List (L2.Key × D)} {ks : List Str} (e : s[k]? = some (.dK kvs)) (h : kStrs kvs = some ks) (hz : ks.length < 64) : sortAnyD (.ptr k) s = .ok (.vls ((sortS ks).map D.str)) s := by
  have e0 : seqD s (.ptr k) = none := by
    unfold seqD
    simp only [e]
  unfold sortAnyD
  rw [e0]
  show (match s[k]? with
    | some (.dK kvs) => (match kStrs kvs with
      | some ks => if ks.length < 64 then R.ok (D.vls ((sortS ks).map D.str)) s else .stuck
      | none => .stuck)
    | _ => .stuck) = _
  rw [e]
  simp only [h]
  rw [if_pos hz]
end
/-! ### a dict by names -/
section
variable {α : Type} {enc : α → D}
def nmK (enc : α → D) (l : List (Str × α)) : List (L2.Key × D) := l.map fun p => (.inr p.1, enc p.2)
theorem nmK_len (l : List (Str × α)) : (nmK enc l).length = l.length := List.length_map ..
theorem nmK_keys (l : List (Str × α)) : (nmK enc l).map (fun kv => keyD kv.1) = l.map fun p => D.str p.1 := by
  unfold nmK
  rw [List.map_map]
  rfl
theorem nmK_strs : ∀ l : List (Str × α), kStrs (nmK enc l) = some (l.map (·.1))
  | [] => rfl
  | p :: l => by
    have ih := nmK_strs l
    unfold kStrs at ih ⊢
    show mapO keyStr ((.inr p.1, enc p.2) :: nmK enc l) = _
    unfold mapO
    simp only [ih]
    rfl
theorem nmK_val_none {x : Str} : ∀ {l : List (Str × α)}, x ∉ l.map (·.1) → valD (nmK enc l) (.inr x) = none
  | [], _ => rfl
  | p :: l, h => by
    have h1 : p.1 ≠ x := fun e => h (by rw [List.map_cons, e]; exact List.mem_cons_self)
    have h2 : x ∉ l.map (·.1) := fun e => h (by rw [List.map_cons]; exact List.mem_cons_of_mem _ e)
    have ih := nmK_val_none h2
    unfold valD nmK at ih ⊢
    rw [List.map_cons, List.find?_cons]
    have : decide ((Sum.inr p.1 : L2.Key) = .inr x) = false := decide_eq_false fun e => h1 (Sum.inr.inj e)
    simp only [this]
    exact ih
theorem nmK_val {x : Str} {a : α} : ∀ {l : List (Str × α)}, (l.map (·.1)).Nodup → (x, a) ∈ l → valD (nmK enc l) (.inr x) = some (enc a)
  | [], _, h => by cases h
  | p :: l, hn, h => by
    rw [List.map_cons] at hn
    have hn := List.nodup_cons.mp hn
    unfold valD nmK
    rw [List.map_cons, List.find?_cons]
    by_cases e : p.1 = x
    · have : decide ((Sum.inr p.1 : L2.Key) = .inr x) = true := decide_eq_true (by rw [e])
      simp only [this]
      rcases List.mem_cons.mp h with h | h
      · rw [← h]
        rfl
      · exact absurd (by rw [e]; exact List.mem_map.mpr ⟨_, h, rfl⟩) hn.1
    · have : decide ((Sum.inr p.1 : L2.Key) = .inr x) = false := decide_eq_false fun z => e (Sum.inr.inj z)
      simp only [this]
      have h : (x, a) ∈ l := by
        rcases List.mem_cons.mp h with h | h
        · exact absurd (by rw [← h]) e
        · exact h
      have ih := nmK_val hn.2 h
      unfold valD nmK at ih
      exact ih
theorem nmK_put {x : Str} {a : α} {l : List (Str × α)} (h : x ∉ l.map (·.1)) : putKD (nmK enc l) (.inr x) (enc a) = nmK enc (l ++ [(x, a)]) := by
  unfold putKD
  have e : ((nmK enc l).any fun kv => decide (kv.1 = .inr x)) = false := by
    rw [List.any_eq_false]
    intro kv hkv
    unfold nmK at hkv
    obtain ⟨p, hp, rfl⟩ := List.mem_map.mp hkv
    simp only [decide_eq_true_eq]
    exact fun z => h (List.mem_map.mpr ⟨p, hp, Sum.inr.inj z⟩)
  rw [e, if_neg (by decide)]
  unfold nmK
  rw [List.map_append]
  rfl
end
end PL

/-! GM1: corners of the plane, turns, what a hull is; the chain that a stack keeps, the wrap that goes round: both give it. -/
namespace GM
abbrev P2 := Int × Int
def area (a b c : P2) : Int := (b.1 - a.1) * (c.2 - a.2) - (b.2 - a.2) * (c.1 - a.1)
def lin (u v : Int) (p : P2) : Int := u * p.1 + v * p.2
def Bw (a p b : Int) : Prop := (a ≤ p ∧ p ≤ b) ∨ (b ≤ p ∧ p ≤ a)
def Seg (p a b : P2) : Prop := area a b p = 0 ∧ Bw a.1 p.1 b.1 ∧ Bw a.2 p.2 b.2
def Edge (pts : List P2) (a b : P2) : Prop := ∀ p ∈ pts, 0 < area a b p ∨ Seg p a b
def Lt (p q : P2) : Prop := p.1 < q.1 ∨ (p.1 = q.1 ∧ p.2 < q.2)

/-! ### signs of products -/
theorem mul_pos' {x y : Int} (h : 0 < x) (k : 0 < y) : 0 < x * y := Int.mul_pos h k
theorem pos_of_mul {f x : Int} (hf : 0 < f) (h : 0 < f * x) : 0 < x := by
  rcases Int.lt_trichotomy x 0 with k | k | k
  · have := Int.mul_nonneg (Int.le_of_lt hf) (show 0 ≤ -x by omega)
    rw [Int.mul_neg] at this
    omega
  · rw [k, Int.mul_zero] at h
    omega
  · exact k
theorem nonneg_of_mul {f x : Int} (hf : 0 < f) (h : 0 ≤ f * x) : 0 ≤ x := by
  rcases Int.lt_trichotomy x 0 with k | k | k
  · have := Int.mul_pos hf (show 0 < -x by omega)
    rw [Int.mul_neg] at this
    omega
  · omega
  · omega
theorem zero_of_mul {f x : Int} (hf : 0 < f) (h : f * x = 0) : x = 0 := by
  rcases Int.mul_eq_zero.mp h with k | k
  · omega
  · exact k

/-! ### turns -/
theorem area_cyc (a b c : P2) : area b c a = area a b c := by
  unfold area
  grind
theorem area_sw (a b c : P2) : area b a c = -area a b c := by
  unfold area
  grind
theorem area_sw2 (a b c : P2) : area a c b = -area a b c := by
  unfold area
  grind
theorem area_aa (a b : P2) : area a b a = 0 := by
  unfold area
  grind
theorem area_ab (a b : P2) : area a b b = 0 := by
  unfold area
  grind
theorem area_00 (a b : P2) : area a a b = 0 := by
  unfold area
  grind
/-- four corners and a line's heights -/
theorem four (u v : Int) (a b c d : P2) : (lin u v c - lin u v b) * area a b d = (lin u v d - lin u v b) * area a b c + (lin u v b - lin u v a) * area b c d := by
  unfold area lin
  grind
theorem four' (u v : Int) (a b c d : P2) : (lin u v b - lin u v a) * area a c d = (lin u v c - lin u v a) * area a b d - (lin u v d - lin u v a) * area a b c := by
  unfold area lin
  grind

section
variable {u v : Int}
theorem on_right {a b c d : P2} (hab : lin u v a < lin u v b) (hbc : lin u v b < lin u v c) (hbd : lin u v b < lin u v d) (h : 0 < area a b c) (k : 0 ≤ area b c d) : 0 < area a b d := by
  have e := four u v a b c d
  have h1 := Int.mul_pos (show 0 < lin u v d - lin u v b by omega) h
  have h2 := Int.mul_nonneg (show 0 ≤ lin u v b - lin u v a by omega) k
  exact pos_of_mul (show 0 < lin u v c - lin u v b by omega) (by omega)
theorem on_left {a b c d : P2} (hab : lin u v a < lin u v b) (hbc : lin u v b < lin u v c) (hdb : lin u v d < lin u v b) (h : 0 < area a b c) (k : 0 ≤ area a b d) : 0 < area b c d := by
  have e := four u v a b c d
  have h1 := Int.mul_pos (show 0 < lin u v b - lin u v d by omega) h
  have h2 := Int.mul_nonneg (show 0 ≤ lin u v c - lin u v b by omega) k
  have e2 : (lin u v b - lin u v d) * area a b c = -((lin u v d - lin u v b) * area a b c) := by
    rw [← Int.neg_mul]
    congr 1
    omega
  exact pos_of_mul (show 0 < lin u v b - lin u v a by omega) (by omega)
theorem on_pop {a b c d : P2} (hab : lin u v a < lin u v b) (hac : lin u v a < lin u v c) (had : lin u v a ≤ lin u v d) (h : area a b c ≤ 0) (k : 0 ≤ area a b d) : 0 ≤ area a c d := by
  have e := four' u v a b c d
  have h1 := Int.mul_nonneg (show 0 ≤ lin u v d - lin u v a by omega) (show 0 ≤ -area a b c by omega)
  have h2 := Int.mul_nonneg (show 0 ≤ lin u v c - lin u v a by omega) k
  rw [Int.mul_neg] at h1
  exact nonneg_of_mul (show 0 < lin u v b - lin u v a by omega) (by omega)

/-! ### the stack, its last corner first -/
def push (c : P2) : List P2 → List P2
  | b :: a :: r => if 0 < area a b c then c :: b :: a :: r else push c (a :: r)
  | st => c :: st
/-- each pair of the stack has all of pre on its left, or between -/
def Sup (u v : Int) (pre : List P2) : List P2 → Prop
  | b :: a :: r => lin u v a < lin u v b ∧ (∀ p ∈ pre, 0 < area a b p ∨ (area a b p = 0 ∧ lin u v a ≤ lin u v p ∧ lin u v p ≤ lin u v b)) ∧ Sup u v pre (a :: r)
  | _ => True
theorem sup_new {pre : List P2} {c : P2} : ∀ {st : List P2} {b a : P2}, (∀ x ∈ b :: a :: st, x ∈ pre) → Sup u v pre (b :: a :: st) → 0 < area a b c → lin u v b < lin u v c → Sup u v (c :: pre) (b :: a :: st)
  | [], b, a, _, h, k, l => ⟨h.1, fun p hp => by
      rcases List.mem_cons.mp hp with rfl | hp
      · exact .inl k
      · exact h.2.1 p hp, trivial⟩
  | z :: st, b, a, hm, ⟨h1, h2, h3⟩, k, l => by
    have hz := h3.1
    have hb := h3.2.1 b (hm b List.mem_cons_self)
    have hb2 : 0 < area z a b := by
      rcases hb with hb | ⟨_, _, hb⟩
      · exact hb
      · omega
    refine ⟨h1, fun p hp => ?_, sup_new (fun x hx => hm x (List.mem_cons_of_mem _ hx)) h3 (on_right hz h1 (by omega) hb2 (Int.le_of_lt k)) (by omega)⟩
    rcases List.mem_cons.mp hp with rfl | hp
    · exact .inl k
    · exact h2 p hp
/-- what a stack is of the corners so far -/
structure Stk (u v : Int) (pre : List P2) (st : List P2) : Prop where
  sub : ∀ x ∈ st, x ∈ pre
  sup : Sup u v pre st
theorem push_ok {pre : List P2} {c : P2} (hc : ∀ p ∈ pre, lin u v p < lin u v c) : ∀ {st : List P2}, Stk u v pre st → (∀ b r, st = b :: r → ∀ p ∈ pre, lin u v b ≤ lin u v p → 0 ≤ area b c p) → (∀ b, st.getLast? = some b → ∀ p ∈ pre, lin u v b ≤ lin u v p) →
    Stk u v (c :: pre) (push c st) ∧ (push c st).head? = some c ∧ (push c st).getLast? = some (st.getLast?.getD c)
  | [], h, _, _ => by
    unfold push
    refine ⟨⟨fun x hx => ?_, trivial⟩, rfl, rfl⟩
    rw [List.mem_singleton.mp hx]
    exact List.mem_cons_self
  | [b], h, hp, hl => by
    have hb := h.sub b List.mem_cons_self
    have hbc := hc b hb
    unfold push
    refine ⟨⟨fun x hx => ?_, hbc, fun p hq => ?_, trivial⟩, rfl, rfl⟩
    · rcases List.mem_cons.mp hx with rfl | hx
      · exact List.mem_cons_self
      · exact List.mem_cons_of_mem _ (h.sub x hx)
    · rcases List.mem_cons.mp hq with rfl | hq
      · exact .inr ⟨area_ab _ _, by omega, by omega⟩
      · have h1 := hp b [] rfl p hq (hl b rfl p hq)
        have h2 := hl b rfl p hq
        have h3 := hc p hq
        by_cases h4 : 0 < area b c p
        · exact .inl h4
        · exact .inr ⟨by omega, by omega, by omega⟩
  | b :: a :: r, h, hp, hl => by
    have hb := h.sub b List.mem_cons_self
    have hbc := hc b hb
    have hab := h.sup.1
    unfold push
    by_cases k : 0 < area a b c
    · rw [if_pos k]
      have hs := sup_new h.sub h.sup k hbc
      refine ⟨⟨fun x hx => ?_, hbc, fun p hq => ?_, hs⟩, rfl, ?_⟩
      · rcases List.mem_cons.mp hx with rfl | hx
        · exact List.mem_cons_self
        · exact List.mem_cons_of_mem _ (h.sub x hx)
      · rcases List.mem_cons.mp hq with rfl | hq
        · exact .inr ⟨area_ab _ _, by omega, by omega⟩
        · have h3 := hc p hq
          by_cases h2 : lin u v b ≤ lin u v p
          · have h1 := hp b _ rfl p hq h2
            by_cases h4 : 0 < area b c p
            · exact .inl h4
            · exact .inr ⟨by omega, by omega, by omega⟩
          · have h1 : 0 ≤ area a b p := by
              rcases h.sup.2.1 p hq with h1 | h1
              · omega
              · omega
            exact .inl (on_left hab hbc (by omega) k h1)
      · show (c :: b :: a :: r).getLast? = some ((b :: a :: r).getLast?.getD c)
        rw [List.getLast?_cons_cons]
        cases e : (b :: a :: r).getLast? with
        | none => simp at e
        | some z => rfl
    · rw [if_neg k]
      have ih := push_ok hc (st := a :: r) ⟨fun x hx => h.sub x (List.mem_cons_of_mem _ hx), h.sup.2.2⟩ (fun b' r' e p hq hf => by
        cases e
        have h1 : 0 ≤ area a b p := by
          rcases h.sup.2.1 p hq with h1 | h1
          · omega
          · omega
        exact on_pop hab (by omega) hf (by omega) h1) (fun b' e p hq => hl b' (by rw [List.getLast?_cons_cons]; exact e) p hq)
      refine ⟨ih.1, ih.2.1, ?_⟩
      rw [ih.2.2, List.getLast?_cons_cons]
/-- all corners in ascending order of f -/
def chainR : List P2 → List P2 → List P2
  | st, [] => st
  | st, c :: r => chainR (push c st) r
theorem chainR_ok : ∀ (l pre st : List P2), (∀ p ∈ pre, ∀ q ∈ l, lin u v p < lin u v q) → l.Pairwise (fun p q => lin u v p < lin u v q) → Stk u v pre st → (∀ b, st.head? = some b → ∀ p ∈ pre, lin u v p < lin u v b ∨ p = b) → (∀ p ∈ pre, ∃ b, st.getLast? = some b ∧ lin u v b ≤ lin u v p) →
    Stk u v (l.reverse ++ pre) (chainR st l) ∧ (chainR st l).head? = (l.getLast?.or st.head?) ∧ (chainR st l).getLast? = (st.getLast?.or l.head?)
  | [], pre, st, _, _, h, _, _ => ⟨h, by simp [chainR], by simp [chainR]⟩
  | c :: l, pre, st, ha, hs, h, hh, hl => by
    have hc : ∀ p ∈ pre, lin u v p < lin u v c := fun p hp => ha p hp c List.mem_cons_self
    have hs1 := List.pairwise_cons.mp hs
    obtain ⟨k1, k2, k3⟩ := push_ok hc h (fun b r e p hp hf => by
      subst e
      rcases hh b rfl p hp with k | k
      · omega
      · subst k
        rw [area_aa]
        omega) (fun b e p hp => by
      obtain ⟨z, h1, h2⟩ := hl p hp
      rw [e] at h1
      cases h1
      exact h2)
    obtain ⟨r1, r2, r3⟩ := chainR_ok l (c :: pre) (push c st) (fun p hp q hq => by
      rcases List.mem_cons.mp hp with rfl | hp
      · exact hs1.1 q hq
      · exact ha p hp q (List.mem_cons_of_mem _ hq)) hs1.2 k1 (fun b e p hp => by
      rw [k2] at e
      cases e
      rcases List.mem_cons.mp hp with rfl | hp
      · exact .inr rfl
      · exact .inl (hc p hp)) (fun p hp => by
      rw [k3]
      rcases List.mem_cons.mp hp with rfl | hp
      · refine ⟨_, rfl, ?_⟩
        cases q : st.getLast? with
        | none => exact Int.le_refl _
        | some z => exact Int.le_of_lt (hc z (h.sub z (List.mem_of_getLast? q)))
      · obtain ⟨b, h1, h2⟩ := hl p hp
        rw [h1]
        exact ⟨b, rfl, h2⟩)
    refine ⟨?_, ?_, ?_⟩
    · rw [List.reverse_cons, List.append_assoc]
      exact r1
    · show (chainR (push c st) l).head? = _
      rw [r2, k2, List.getLast?_cons]
      cases l.getLast? <;> simp
    · show (chainR (push c st) l).getLast? = _
      rw [r3, k3]
      cases st.getLast? <;> simp
end
end GM

/-! GM2: what a hull is; the two chains give it. -/
namespace GM
def Steps (R : P2 → P2 → Prop) : List P2 → Prop
  | a :: b :: r => R a b ∧ Steps R (b :: r)
  | _ => True
theorem Steps.imp {R S : P2 → P2 → Prop} : ∀ {l : List P2}, Steps R l → (∀ a ∈ l, ∀ b ∈ l, R a b → S a b) → Steps S l
  | [], _, _ => trivial
  | [_], _, _ => trivial
  | a :: b :: r, h, k => ⟨k a List.mem_cons_self b (List.mem_cons_of_mem _ List.mem_cons_self) h.1, Steps.imp h.2 fun x hx y hy => k x (List.mem_cons_of_mem _ hx) y (List.mem_cons_of_mem _ hy)⟩
theorem Steps.glue {R : P2 → P2 → Prop} {x : P2} {m : List P2} : ∀ {l : List P2}, Steps R (l ++ [x]) → Steps R (x :: m) → Steps R (l ++ x :: m)
  | [], _, k => k
  | [a], h, k => ⟨h.1, k⟩
  | a :: b :: r, h, k => ⟨h.1, Steps.glue (l := b :: r) h.2 k⟩
theorem Steps.rev {R : P2 → P2 → Prop} : ∀ {l : List P2}, Steps (fun a b => R b a) l → Steps R l.reverse
  | [], _ => trivial
  | [_], _ => trivial
  | a :: b :: r, h => by
    rw [List.reverse_cons, List.reverse_cons, List.append_assoc]
    refine Steps.glue (x := b) (m := [a]) ?_ ⟨h.1, trivial⟩
    have := Steps.rev h.2
    rw [List.reverse_cons] at this
    exact this
theorem Steps.left {R : P2 → P2 → Prop} {m : List P2} : ∀ {l : List P2}, Steps R (l ++ m) → Steps R l
  | [], _ => trivial
  | [_], _ => trivial
  | a :: b :: r, h => ⟨h.1, Steps.left (l := b :: r) h.2⟩
theorem Steps.right {R : P2 → P2 → Prop} {m : List P2} : ∀ {l : List P2}, Steps R (l ++ m) → Steps R m
  | [], h => h
  | [a], h => by
    cases m with
    | nil => trivial
    | cons b r => exact h.2
  | a :: b :: r, h => Steps.right (l := b :: r) h.2

theorem bw_mul {D T d p : Int} (hD : 0 < D) (h0 : 0 ≤ T) (h1 : T ≤ D) (e : D * p = T * d) : (0 ≤ p ∧ p ≤ d) ∨ (d ≤ p ∧ p ≤ 0) := by
  by_cases k : 0 ≤ d
  · left
    have a := Int.mul_nonneg h0 k
    have b := Int.mul_le_mul_of_nonneg_right h1 k
    have c : D * (d - p) = D * d - D * p := Int.mul_sub _ _ _
    exact ⟨nonneg_of_mul hD (by omega), by have := nonneg_of_mul hD (x := d - p) (by omega); omega⟩
  · right
    have k' : 0 ≤ -d := by omega
    have a := Int.mul_nonneg h0 k'
    have b := Int.mul_le_mul_of_nonneg_right h1 k'
    rw [Int.mul_neg] at a b
    rw [Int.mul_neg] at b
    have c : D * (p - d) = D * p - D * d := Int.mul_sub _ _ _
    have c2 : D * (-p) = -(D * p) := Int.mul_neg _ _
    exact ⟨by have := nonneg_of_mul hD (x := p - d) (by omega); omega, by have := nonneg_of_mul hD (x := -p) (by omega); omega⟩
theorem seg_of_f {u v : Int} {a b p : P2} (h : lin u v a < lin u v b) (e : area a b p = 0) (h0 : lin u v a ≤ lin u v p) (h1 : lin u v p ≤ lin u v b) : Seg p a b := by
  have e1 : (lin u v b - lin u v a) * (p.1 - a.1) = (lin u v p - lin u v a) * (b.1 - a.1) := by
    have : (lin u v b - lin u v a) * (p.1 - a.1) = (lin u v p - lin u v a) * (b.1 - a.1) - v * area a b p := by
      unfold area lin
      grind
    rw [this, e]
    omega
  have e2 : (lin u v b - lin u v a) * (p.2 - a.2) = (lin u v p - lin u v a) * (b.2 - a.2) := by
    have : (lin u v b - lin u v a) * (p.2 - a.2) = (lin u v p - lin u v a) * (b.2 - a.2) + u * area a b p := by
      unfold area lin
      grind
    rw [this, e]
    omega
  have b1 := bw_mul (by omega) (by omega) (by omega) e1
  have b2 := bw_mul (by omega) (by omega) (by omega) e2
  unfold Seg Bw
  exact ⟨e, by omega, by omega⟩

/-! ### what a hull is -/
structure IsHull (pts H : List P2) : Prop where
  sub : ∀ h ∈ H, h ∈ pts
  nd : H.Nodup
  least : ∃ a r, H = a :: r ∧ (∀ p ∈ pts, p = a ∨ Lt a p) ∧ Steps (Edge pts) (a :: r ++ [a])

theorem exists_f : ∀ (l : List P2), ∃ B : Int, 0 ≤ B ∧ ∀ p ∈ l, -B ≤ p.2 ∧ p.2 ≤ B
  | [] => ⟨0, Int.le_refl _, fun _ h => by cases h⟩
  | q :: l => by
    obtain ⟨B, h0, h⟩ := exists_f l
    refine ⟨B + q.2.natAbs, by omega, fun p hp => ?_⟩
    rcases List.mem_cons.mp hp with rfl | hp
    · omega
    · have := h p hp
      omega
theorem f_lt {B : Int} {p q : P2} (hB : 0 ≤ B) (hp : -B ≤ p.2 ∧ p.2 ≤ B) (hq : -B ≤ q.2 ∧ q.2 ≤ B) (h : Lt p q) : lin (2 * B + 1) 1 p < lin (2 * B + 1) 1 q := by
  unfold lin
  rcases h with h | ⟨h, k⟩
  · have := Int.mul_le_mul_of_nonneg_left (show p.1 + 1 ≤ q.1 by omega) (show 0 ≤ 2 * B + 1 by omega)
    rw [Int.mul_add] at this
    omega
  · rw [h]
    omega
theorem pw_imp {R S : P2 → P2 → Prop} : ∀ {l : List P2}, l.Pairwise R → (∀ a ∈ l, ∀ b ∈ l, R a b → S a b) → l.Pairwise S
  | [], _, _ => List.Pairwise.nil
  | a :: l, h, k => by
    have h := List.pairwise_cons.mp h
    exact List.pairwise_cons.mpr ⟨fun b hb => k a List.mem_cons_self b (List.mem_cons_of_mem _ hb) (h.1 b hb), pw_imp h.2 fun x hx y hy => k x (List.mem_cons_of_mem _ hx) y (List.mem_cons_of_mem _ hy)⟩

theorem sup_steps {u v : Int} {pre : List P2} : ∀ {st : List P2}, Sup u v pre st → Steps (fun b a => Edge pre a b ∧ lin u v a < lin u v b ∧ ∀ p ∈ pre, area a b p = 0 → lin u v a ≤ lin u v p) st
  | [], _ => trivial
  | [_], _ => trivial
  | b :: a :: r, ⟨h1, h2, h3⟩ => ⟨⟨fun p hp => by
      rcases h2 p hp with k | ⟨k1, k2, k3⟩
      · exact .inl k
      · exact .inr (seg_of_f h1 k1 k2 k3), h1, fun p hp e => by
      rcases h2 p hp with k | ⟨k1, k2, k3⟩
      · omega
      · exact k2⟩, sup_steps h3⟩
theorem sup_desc {u v : Int} {pre : List P2} : ∀ {st : List P2}, Sup u v pre st → st.Pairwise fun b a => lin u v a < lin u v b
  | [], _ => List.Pairwise.nil
  | [_], _ => List.pairwise_cons.mpr ⟨(fun _ h => nomatch h), List.Pairwise.nil⟩
  | b :: a :: r, ⟨h1, h2, h3⟩ => by
    have ih := sup_desc h3
    refine List.pairwise_cons.mpr ⟨fun x hx => ?_, ih⟩
    rcases List.mem_cons.mp hx with rfl | hx
    · exact h1
    · have := (List.pairwise_cons.mp ih).1 x hx
      omega
theorem sup_out {u v : Int} {pre : List P2} : ∀ {st : List P2} {x : P2}, Sup u v pre st → (∀ y ∈ st, y ∈ pre) → x ∈ st.tail → ∃ y ∈ pre, lin u v x < lin u v y ∧ ∀ p ∈ pre, 0 ≤ area x y p ∧ (area x y p = 0 → lin u v x ≤ lin u v p)
  | [], x, _, _, hx => by cases hx
  | [_], x, _, _, hx => by cases hx
  | b :: a :: r, x, ⟨h1, h2, h3⟩, hm, hx => by
    rcases List.mem_cons.mp (show x ∈ a :: r from hx) with rfl | hx
    · refine ⟨b, hm b List.mem_cons_self, h1, fun p hp => ?_⟩
      rcases h2 p hp with k | ⟨k1, k2, k3⟩
      · exact ⟨by omega, fun _ => by omega⟩
      · exact ⟨by omega, fun _ => k2⟩
    · exact sup_out h3 (fun y hy => hm y (List.mem_cons_of_mem _ hy)) (show x ∈ (a :: r).tail from hx)

theorem nodup_rev {l : List P2} (h : l.Nodup) : l.reverse.Nodup := by
  unfold List.Nodup at *
  rw [List.pairwise_reverse]
  exact h.imp fun h e => h e.symm
def chainQ (l : List P2) : List P2 := (chainR [] l).reverse
def hullQ (order : List P2) : List P2 := if order.length = 1 then order else (chainQ order).dropLast ++ (chainQ order.reverse).dropLast
theorem chain_all {u v : Int} {l : List P2} (h : l.Pairwise fun p q => lin u v p < lin u v q) : Stk u v l.reverse (chainR [] l) ∧ (chainR [] l).head? = l.getLast? ∧ (chainR [] l).getLast? = l.head? := by
  have := chainR_ok (u := u) (v := v) l [] [] (fun _ h => by cases h) h ⟨(fun _ h => nomatch h), trivial⟩ (fun _ h => by cases h) (fun _ h => by cases h)
  rw [List.append_nil] at this
  exact ⟨this.1, by rw [this.2.1]; simp, by rw [this.2.2]; simp⟩
theorem lin_neg (u v : Int) (p : P2) : lin (-u) (-v) p = -lin u v p := by
  unfold lin
  grind
theorem Lt.trans {p q r : P2} (h : Lt p q) (k : Lt q r) : Lt p r := by
  unfold Lt at *
  omega
theorem Lt.irr {p : P2} (h : Lt p p) : False := by
  unfold Lt at *
  omega
theorem hullQ_is {order : List P2} (hs : order.Pairwise Lt) (h0 : order ≠ []) : IsHull order (hullQ order) := by
  unfold hullQ
  cases order with
  | nil => exact absurd rfl h0
  | cons a l =>
    by_cases h1 : (a :: l).length = 1
    · rw [if_pos h1]
      have : l = [] := by
        rw [List.length_cons] at h1
        exact List.length_eq_zero_iff.mp (by omega)
      subst this
      refine ⟨fun _ h => h, by simp, ⟨a, [], rfl, fun p hp => .inl (List.mem_singleton.mp hp), ?_⟩⟩
      refine ⟨fun p hp => .inr ?_, trivial⟩
      rw [List.mem_singleton.mp hp]
      unfold Seg Bw
      exact ⟨area_00 _ _, by omega, by omega⟩
    · rw [if_neg h1]
      obtain ⟨B, hB0, hB⟩ := exists_f (a :: l)
      obtain ⟨u, hu⟩ : ∃ u, u = 2 * B + 1 := ⟨_, rfl⟩
      have hf : (a :: l).Pairwise fun p q => lin u 1 p < lin u 1 q := pw_imp hs fun p hp q hq h => by
        rw [hu]
        exact f_lt hB0 (hB p hp) (hB q hq) h
      have hf2 : (a :: l).reverse.Pairwise fun p q => lin (-u) (-1) p < lin (-u) (-1) q := by
        rw [List.pairwise_reverse]
        refine hf.imp fun {p q} h => ?_
        rw [lin_neg, lin_neg]
        omega
      obtain ⟨L, L1, L2⟩ := chain_all hf
      obtain ⟨U, U1, U2⟩ := chain_all hf2
      unfold chainQ
      obtain ⟨sL, eL⟩ : ∃ x, x = chainR [] (a :: l) := ⟨_, rfl⟩
      obtain ⟨sU, eU⟩ : ∃ x, x = chainR [] (a :: l).reverse := ⟨_, rfl⟩
      rw [← eL] at L L1 L2 ⊢
      rw [← eU] at U U1 U2 ⊢
      rw [List.getLast?_reverse] at U1
      rw [List.head?_reverse] at U2
      obtain ⟨z, hz⟩ : ∃ z, (a :: l).getLast? = some z := by
        cases e : (a :: l).getLast? with
        | none => simp at e
        | some z => exact ⟨z, rfl⟩
      rw [hz] at L1 U2
      rw [List.head?_cons] at L2 U1
      have mL : ∀ x, x ∈ (a :: l).reverse ↔ x ∈ a :: l := fun x => List.mem_reverse
      rw [List.dropLast_reverse, List.dropLast_reverse]
      have aL : ∀ x ∈ sL, x ∈ a :: l := fun x hx => (mL x).mp (L.sub x hx)
      have aU : ∀ x ∈ sU, x ∈ a :: l := fun x hx => by
        have := U.sub x hx
        rw [List.reverse_reverse] at this
        exact this
      have haz : a ≠ z := fun e => by
        subst e
        cases l with
        | nil => exact h1 rfl
        | cons b r =>
          rw [List.getLast?_cons_cons] at hz
          have := (List.pairwise_cons.mp hs).1 a (List.mem_of_getLast? hz)
          exact Lt.irr this
      -- sL = z :: .. ++ [a], sU = a :: .. ++ [z]
      obtain ⟨tL, rfl⟩ : ∃ t, sL = z :: t := by
        cases sL with
        | nil => cases L1
        | cons x t => cases L1; exact ⟨t, rfl⟩
      obtain ⟨tU, rfl⟩ : ∃ t, sU = a :: t := by
        cases sU with
        | nil => cases U1
        | cons x t => cases U1; exact ⟨t, rfl⟩
      have lL : tL.getLast? = some a := by
        cases tL with
        | nil =>
          simp at L2
          exact absurd L2.symm haz
        | cons x t => rw [List.getLast?_cons_cons] at L2; exact L2
      have lU : tU.getLast? = some z := by
        cases tU with
        | nil =>
          simp at U2
          exact absurd U2 haz
        | cons x t => rw [List.getLast?_cons_cons] at U2; exact U2
      obtain ⟨rL, rfl⟩ := List.getLast?_eq_some_iff.mp lL
      obtain ⟨rU, rfl⟩ := List.getLast?_eq_some_iff.mp lU
      show IsHull (a :: l) ((rL ++ [a]).reverse ++ (rU ++ [z]).reverse)
      rw [List.reverse_append, List.reverse_append]
      show IsHull (a :: l) (a :: rL.reverse ++ (z :: rU.reverse))
      have dL := sup_desc L.sup
      have dU := sup_desc U.sup
      have nL : (z :: (rL ++ [a])).Nodup := dL.imp fun {x y} h e => by
        subst e
        omega
      have nU : (a :: (rU ++ [z])).Nodup := dU.imp fun {x y} h e => by
        subst e
        omega
      refine ⟨fun x hx => ?_, ?_, ⟨a, rL.reverse ++ z :: rU.reverse, rfl, fun p hp => ?_, ?_⟩⟩
      · rcases List.mem_append.mp hx with hx | hx
        · refine aL x (List.mem_cons_of_mem _ ?_)
          rcases List.mem_cons.mp hx with rfl | hx
          · simp
          · simp at hx
            simp [hx]
        · refine aU x (List.mem_cons_of_mem _ ?_)
          rcases List.mem_cons.mp hx with rfl | hx
          · simp
          · simp at hx
            simp [hx]
      · rw [List.nodup_append]
        refine ⟨?_, ?_, fun x hx y hy e => ?_⟩
        · have := (List.nodup_cons.mp nL).2
          have h2 := nodup_rev this
          rw [List.reverse_append] at h2
          exact h2
        · have := (List.nodup_cons.mp nU).2
          have h2 := nodup_rev this
          rw [List.reverse_append] at h2
          exact h2
        · subst e
          have hx' : x ∈ (z :: (rL ++ [a])).tail := by
            show x ∈ rL ++ [a]
            rcases List.mem_cons.mp hx with rfl | hx
            · simp
            · simp at hx
              simp [hx]
          have hy' : x ∈ (a :: (rU ++ [z])).tail := by
            show x ∈ rU ++ [z]
            rcases List.mem_cons.mp hy with rfl | hy
            · simp
            · simp at hy
              simp [hy]
          obtain ⟨y, y1, y2, y3⟩ := sup_out L.sup L.sub hx'
          obtain ⟨w, w1, w2, w3⟩ := sup_out U.sup U.sub hy'
          rw [lin_neg, lin_neg] at w2
          have q1 := y3 w (by rw [mL]; rw [List.reverse_reverse] at w1; exact w1)
          have q2 := w3 y (by rw [List.reverse_reverse]; exact (mL y).mp y1)
          have q3 := area_sw2 x y w
          have q4 := q1.2 (by omega)
          omega
      · cases List.mem_cons.mp hp with
        | inl h => exact .inl h
        | inr h => exact .inr ((List.pairwise_cons.mp hs).1 p h)
      · have sL := (sup_steps L.sup)
        have sU := (sup_steps U.sup)
        have e1 : Steps (Edge (a :: l)) (z :: (rL ++ [a])).reverse := Steps.rev (sL.imp fun x _ y _ h p hp => h.1 p ((mL p).mpr hp))
        have e2 : Steps (Edge (a :: l)) (a :: (rU ++ [z])).reverse := Steps.rev (sU.imp fun x _ y _ h p hp => h.1 p (by rw [List.reverse_reverse]; exact hp))
        rw [List.reverse_cons, List.reverse_append] at e1 e2
        have g := Steps.glue (l := a :: rL.reverse) (x := z) (m := rU.reverse ++ [a]) (by simpa using e1) (by simpa using e2)
        simpa using g
end GM

/-! GM3: the wrap that goes round from the least corner gives the hull, and nothing else is one. -/
namespace GM
def farP (c now : P2) : Int := (c.1 - now.1) ^ 2 + (c.2 - now.2) ^ 2
def better (now best c : P2) : Bool := !decide (c = now) && (decide (area now best c < 0) || (decide (area now best c = 0) && decide (farP best now < farP c now)))
def bestP (now : P2) (l : List P2) (start : P2) : P2 := l.foldl (fun best c => if better now best c = true then c else best) start
def nth (l : List P2) (k : Nat) : P2 := l.getD k (0, 0)
def nextP (order : List P2) (now : P2) : P2 := bestP now order (if !decide (nth order 0 = now) then nth order 0 else nth order 1)
def wrapP (order : List P2) : Nat → List P2 → List P2
  | 0, found => found
  | n + 1, found => if nextP order (nth found (found.length - 1)) = nth found 0 then found else wrapP order n (found ++ [nextP order (nth found (found.length - 1))])
theorem sq_le {p d : Int} (h : (0 ≤ p ∧ p ≤ d) ∨ (d ≤ p ∧ p ≤ 0)) : p ^ 2 ≤ d ^ 2 ∧ (p ^ 2 = d ^ 2 → p = d) := by
  have e : d ^ 2 - p ^ 2 = (d - p) * (d + p) := by grind
  have n : ∀ x y : Int, x * y = 0 → x = 0 ∨ y = 0 := fun x y h => Int.mul_eq_zero.mp h
  rcases h with ⟨h0, h1⟩ | ⟨h0, h1⟩
  · have := Int.mul_nonneg (show 0 ≤ d - p by omega) (show 0 ≤ d + p by omega)
    refine ⟨by omega, fun q => ?_⟩
    rcases n _ _ (show (d - p) * (d + p) = 0 by omega) with k | k <;> omega
  · have := Int.mul_nonneg (show 0 ≤ p - d by omega) (show 0 ≤ -(d + p) by omega)
    have e2 : (p - d) * (-(d + p)) = (d - p) * (d + p) := by grind
    refine ⟨by omega, fun q => ?_⟩
    rcases n _ _ (show (d - p) * (d + p) = 0 by omega) with k | k <;> omega
theorem far_seg {now q c : P2} (h : Seg c now q) : farP c now ≤ farP q now ∧ (farP c now = farP q now → c = q) := by
  obtain ⟨_, h1, h2⟩ := h
  unfold Bw at h1 h2
  have a1 := sq_le (p := c.1 - now.1) (d := q.1 - now.1) (by omega)
  have a2 := sq_le (p := c.2 - now.2) (d := q.2 - now.2) (by omega)
  unfold farP
  refine ⟨by omega, fun e => ?_⟩
  have e1 := a1.2 (by omega)
  have e2 := a2.2 (by omega)
  exact Prod.ext (by omega) (by omega)
theorem better_no {now q c : P2} (h : 0 < area now q c ∨ Seg c now q) : better now q c = false := by
  unfold better
  rcases h with h | h
  · have h1 : ¬ area now q c < 0 := by omega
    have h2 : ¬ area now q c = 0 := by omega
    simp [h1, h2]
  · have h1 := h.1
    have h2 := (far_seg h).1
    have h3 : ¬ farP q now < farP c now := by omega
    simp [h1, h3]
theorem better_yes {now q b : P2} (h : 0 < area now q b ∨ Seg b now q) (hq : q ≠ now) (hb : b ≠ q) : better now b q = true := by
  unfold better
  have e := area_sw2 now b q
  rcases h with h | h
  · have h1 : area now b q < 0 := by omega
    simp [hq, h1]
  · have h1 : area now b q = 0 := by
      have := h.1
      omega
    have h2 := far_seg h
    have h3 : farP b now < farP q now := by
      have : farP b now ≠ farP q now := fun e => hb (h2.2 e)
      omega
    simp [hq, h1, h3]
theorem best_is {now q : P2} (hq : q ≠ now) : ∀ (l : List P2) (b : P2), Edge l now q → (0 < area now q b ∨ Seg b now q) → (q ∈ l ∨ b = q) → bestP now l b = q
  | [], b, _, _, h => by
    rcases h with h | h
    · cases h
    · exact h
  | c :: l, b, he, hb, h => by
    show bestP now l (if better now b c = true then c else b) = q
    have hc := he c List.mem_cons_self
    have he' : Edge l now q := fun p hp => he p (List.mem_cons_of_mem _ hp)
    by_cases hbq : b = q
    · subst hbq
      rw [better_no hc]
      exact best_is hq l b he' hb (.inr rfl)
    · by_cases hcq : c = q
      · subst hcq
        rw [better_yes hb hq hbq, if_pos rfl]
        exact best_is hq l c he' hc (.inr rfl)
      · have hm : q ∈ l := by
          rcases h with h | h
          · rcases List.mem_cons.mp h with h | h
            · exact absurd h.symm hcq
            · exact h
          · exact absurd h hbq
        refine best_is hq l _ he' ?_ (.inl hm)
        split
        · exact hc
        · exact hb
theorem nth_mem {l : List P2} {k : Nat} (h : k < l.length) : nth l k ∈ l := by
  unfold nth
  rw [List.getD_eq_getElem?_getD, List.getElem?_eq_getElem h]
  exact List.getElem_mem h
theorem next_is {order : List P2} {now q : P2} (h2 : 2 ≤ order.length) (hn : order.Nodup) (hm : q ∈ order) (hq : q ≠ now) (he : Edge order now q) : nextP order now = q := by
  unfold nextP
  refine best_is hq order _ he ?_ (.inl hm)
  split
  · exact he _ (nth_mem (by omega))
  · exact he _ (nth_mem (by omega))
theorem len_le : ∀ {H l : List P2}, H.Nodup → (∀ h ∈ H, h ∈ l) → H.length ≤ l.length
  | [], _, _, _ => Nat.zero_le _
  | a :: H, l, hn, hs => by
    have hn := List.nodup_cons.mp hn
    have ha := hs a List.mem_cons_self
    have := len_le (l := l.erase a) hn.2 fun h hh => (List.mem_erase_of_ne (fun e => hn.1 (by rw [← e]; exact hh))).mpr (hs h (List.mem_cons_of_mem _ hh))
    rw [List.length_erase_of_mem ha] at this
    have := List.length_pos_of_mem ha
    rw [List.length_cons]
    omega
theorem nth_last {A : List P2} {x : P2} : nth (A ++ [x]) ((A ++ [x]).length - 1) = x := by
  unfold nth
  rw [List.length_append, List.length_singleton, Nat.add_sub_cancel, List.getD_eq_getElem?_getD, List.getElem?_append_right (Nat.le_refl _), Nat.sub_self]
  rfl
theorem nth_first {a x : P2} {A : List P2} (h : (A ++ [x]).head? = some a) : nth (A ++ [x]) 0 = a := by
  cases A with
  | nil => cases h; rfl
  | cons b r => cases h; rfl
theorem wrap_is {order : List P2} {a : P2} (h2 : 2 ≤ order.length) (hn : order.Nodup) : ∀ (B A : List P2) (x : P2) (n : Nat), B.length ≤ n → (A ++ [x]).head? = some a → (A ++ x :: B).Nodup → (∀ h ∈ A ++ x :: B, h ∈ order) → Steps (Edge order) (x :: B ++ [a]) → wrapP order n (A ++ [x]) = A ++ x :: B
  | [], A, x, 0, _, _, _, _, _ => rfl
  | [], A, x, n + 1, _, ha, nd, hm, hs => by
    unfold wrapP
    rw [nth_last, nth_first ha]
    have hxa : x ≠ a ∨ A = [] := by
      cases A with
      | nil => exact .inr rfl
      | cons b r =>
        cases ha
        left
        intro e
        subst e
        have := (List.nodup_cons.mp nd).1
        exact this (by simp)
    have hax : a ≠ x := by
      rcases hxa with h | h
      · exact fun e => h e.symm
      · intro e
        subst e
        subst h
        have hall : ∀ p ∈ order, p = a := fun p hp => by
          rcases hs.1 p hp with k | ⟨_, k1, k2⟩
          · rw [area_00] at k
            omega
          · unfold Bw at k1 k2
            exact Prod.ext (by omega) (by omega)
        cases order with
        | nil => simp at h2
        | cons p l =>
          cases l with
          | nil => simp at h2
          | cons q r =>
            have e1 := hall p List.mem_cons_self
            have e2 := hall q (List.mem_cons_of_mem _ List.mem_cons_self)
            exact (List.nodup_cons.mp hn).1 (by rw [e1, e2]; exact List.mem_cons_self)
    have hao : a ∈ order := hm a (by
      cases A with
      | nil => cases ha; exact absurd rfl hax
      | cons b r => cases ha; exact List.mem_cons_self)
    rw [next_is h2 hn hao hax hs.1, if_pos rfl]
  | y :: B, A, x, n, hl, ha, nd, hm, hs => by
    cases n with
    | zero => simp at hl
    | succ n =>
      unfold wrapP
      rw [nth_last, nth_first ha]
      have hyo : y ∈ order := hm y (by simp)
      have hyx : y ≠ x := fun e => by
        subst e
        have := (List.nodup_append.mp nd).2.1
        exact (List.nodup_cons.mp this).1 (by simp)
      have hya : y ≠ a := fun e => by
        cases A with
        | nil => cases ha; exact hyx e
        | cons b r =>
          cases ha
          exact (List.nodup_cons.mp nd).1 (by rw [← e]; simp)
      rw [next_is h2 hn hyo hyx hs.1, if_neg hya]
      have ih := wrap_is h2 hn B (A ++ [x]) y n (by simpa using hl) (by
        cases A with
        | nil => cases ha; rfl
        | cons b r => cases ha; rfl) (by simpa using nd) (by simpa using hm) hs.2
      rw [ih]
      simp
def wrapQ (order : List P2) : List P2 := if order.length = 1 then order else wrapP order order.length [nth order 0]
theorem wrapQ_is {order H : List P2} (hs : order.Pairwise Lt) (h0 : order ≠ []) (h : IsHull order H) : wrapQ order = H := by
  have hn : order.Nodup := hs.imp fun {x y} h e => by
    subst e
    exact Lt.irr h
  obtain ⟨a, r, rfl, ha, hst⟩ := h.least
  have hal := len_le h.nd h.sub
  cases order with
  | nil => exact absurd rfl h0
  | cons b l =>
    have hab : a = b := by
      have h1 := h.sub a List.mem_cons_self
      rcases ha b List.mem_cons_self with e | e
      · exact e.symm
      · rcases List.mem_cons.mp h1 with e2 | e2
        · exact e2
        · exact (Lt.irr (e.trans ((List.pairwise_cons.mp hs).1 a e2))).elim
    subst hab
    unfold wrapQ
    by_cases h1 : (a :: l).length = 1
    · rw [if_pos h1]
      rw [List.length_cons] at h1
      have : l = [] := List.length_eq_zero_iff.mp (by omega)
      subst this
      rw [List.length_cons, List.length_singleton] at hal
      have : r = [] := List.length_eq_zero_iff.mp (by omega)
      rw [this]
    · rw [if_neg h1]
      have h2 : 2 ≤ (a :: l).length := by
        rw [List.length_cons] at h1 ⊢
        omega
      have := wrap_is (a := a) h2 hn r [] a (a :: l).length (by rw [List.length_cons] at hal; omega) rfl h.nd h.sub hst
      exact this
theorem hull_uniq {order H : List P2} (hs : order.Pairwise Lt) (h0 : order ≠ []) (h : IsHull order H) : hullQ order = H := by
  rw [← wrapQ_is hs h0 (hullQ_is hs h0), wrapQ_is hs h0 h]
theorem wrap_hull {order : List P2} (hs : order.Pairwise Lt) (h0 : order ≠ []) : wrapQ order = hullQ order := wrapQ_is hs h0 (hullQ_is hs h0)
end GM

/-! GM4: polygons by their corners' places. -/
namespace GM
theorem steps_get {R : P2 → P2 → Prop} : ∀ {l : List P2} {i : Nat}, Steps R l → i + 1 < l.length → R (nth l i) (nth l (i + 1))
  | [], _, _, h => by simp at h
  | [_], _, _, h => by simp at h
  | a :: b :: r, 0, h, _ => h.1
  | a :: b :: r, i + 1, h, hi => by
    have := steps_get (l := b :: r) (i := i) h.2 (by simpa using hi)
    exact this
theorem nth_app {l m : List P2} {i : Nat} (h : i < l.length) : nth (l ++ m) i = nth l i := by
  unfold nth
  rw [List.getD_eq_getElem?_getD, List.getD_eq_getElem?_getD, List.getElem?_append_left h]
theorem nth_app2 {l : List P2} {a : P2} : nth (l ++ [a]) l.length = a := by
  unfold nth
  rw [List.getD_eq_getElem?_getD, List.getElem?_append_right (Nat.le_refl _), Nat.sub_self]
  rfl
theorem nth_inj {l : List P2} (hn : l.Nodup) {i j : Nat} (hi : i < l.length) (hj : j < l.length) (e : nth l i = nth l j) : i = j := by
  have g : ∀ {k : Nat} (hk : k < l.length), nth l k = l[k] := fun {k} hk => by
    unfold nth
    rw [List.getD_eq_getElem?_getD, List.getElem?_eq_getElem hk]
    rfl
  rw [g hi, g hj] at e
  have pw := List.pairwise_iff_getElem.mp hn
  rcases Nat.lt_trichotomy i j with k | k | k
  · exact absurd e (pw i j hi hj k)
  · exact k
  · exact absurd e.symm (pw j i hj hi k)
theorem mem_nth {l : List P2} {x : P2} (h : x ∈ l) : ∃ i, i < l.length ∧ nth l i = x := by
  obtain ⟨i, hi, e⟩ := List.getElem_of_mem h
  refine ⟨i, hi, ?_⟩
  unfold nth
  rw [List.getD_eq_getElem?_getD, List.getElem?_eq_getElem hi]
  exact e
/-- the corner behind -/
def nxt (H : List P2) (i : Nat) : Nat := if i + 1 = H.length then 0 else i + 1
theorem nxt_lt {H : List P2} {i : Nat} (h : i < H.length) : nxt H i < H.length := by
  unfold nxt
  split <;> omega
theorem IsHull.pos {pts H : List P2} (h : IsHull pts H) : 0 < H.length := by
  obtain ⟨a, r, rfl, _⟩ := h.least
  simp
theorem IsHull.edge {pts H : List P2} (h : IsHull pts H) {i : Nat} (hi : i < H.length) : Edge pts (nth H i) (nth H (nxt H i)) := by
  obtain ⟨a, r, rfl, _, hs⟩ := h.least
  have hs' : Steps (Edge pts) ((a :: r) ++ [a]) := hs
  have := steps_get (i := i) hs' (by simpa using hi)
  rw [nth_app hi] at this
  unfold nxt
  by_cases hl : i + 1 = (a :: r).length
  · rw [if_pos hl]
    rw [hl, nth_app2] at this
    exact this
  · rw [if_neg hl]
    rw [nth_app (by omega)] at this
    exact this
theorem IsHull.sub_pts {pts pts' H : List P2} (h : IsHull pts H) (h1 : ∀ p ∈ pts', p ∈ pts) (h2 : ∀ p ∈ H, p ∈ pts') : IsHull pts' H := by
  obtain ⟨a, r, rfl, hl, hs⟩ := h.least
  exact ⟨h2, h.nd, a, r, rfl, fun p hp => hl p (h1 p hp), hs.imp fun x _ y _ e p hp => e p (h1 p hp)⟩
theorem edge_nonneg {pts : List P2} {a b p : P2} (h : Edge pts a b) (hp : p ∈ pts) : 0 ≤ area a b p := by
  rcases h p hp with h | h
  · omega
  · have := h.1
    omega
/-- a turn at each corner -/
theorem IsHull.strict {pts H : List P2} (h : IsHull pts H) (hm : 3 ≤ H.length) {i : Nat} (hi : i < H.length) : 0 < area (nth H i) (nth H (nxt H i)) (nth H (nxt H (nxt H i))) := by
  have h1 := nxt_lt hi
  have h2 := nxt_lt h1
  have e1 := h.edge hi (nth H (nxt H (nxt H i))) (h.sub _ (nth_mem h2))
  have e2 := h.edge h1 (nth H i) (h.sub _ (nth_mem hi))
  have n1 : nxt H i ≠ i := by
    unfold nxt
    split <;> omega
  have n2 : nxt H (nxt H i) ≠ i := by
    unfold nxt
    split <;> split <;> omega
  have n3 : nxt H (nxt H i) ≠ nxt H i := by
    unfold nxt
    split <;> split <;> omega
  rcases e1 with e1 | e1
  · exact e1
  · rcases e2 with e2 | e2
    · rw [area_cyc] at e2
      have := e1.1
      omega
    · exfalso
      obtain ⟨_, a1, a2⟩ := e1
      obtain ⟨_, b1, b2⟩ := e2
      have : nth H i = nth H (nxt H (nxt H i)) := by
        unfold Bw at a1 a2 b1 b2
        exact Prod.ext (by omega) (by omega)
      exact n2 (nth_inj h.nd hi h2 this).symm
theorem ivt (f : Nat → Int) : ∀ (n a : Nat), 0 ≤ f a → f (a + n + 1) ≤ 0 → ∃ k, a ≤ k ∧ k ≤ a + n ∧ 0 ≤ f k ∧ f (k + 1) ≤ 0
  | 0, a, h, k => ⟨a, Nat.le_refl _, Nat.le_refl _, h, k⟩
  | n + 1, a, h, k => by
    by_cases h1 : f (a + 1) ≤ 0
    · exact ⟨a, Nat.le_refl _, by omega, h, h1⟩
    · obtain ⟨j, j1, j2, j3, j4⟩ := ivt f n (a + 1) (by omega) (by rw [show a + 1 + n + 1 = a + (n + 1) + 1 by omega]; exact k)
      exact ⟨j, by omega, by omega, j3, j4⟩
/-- what is on the left of all sides is in a triangle -/
theorem tri {H : List P2} {p : P2} (hm : 3 ≤ H.length) (hp : ∀ i, i < H.length → 0 ≤ area (nth H i) (nth H (nxt H i)) p) : ∃ k, 1 ≤ k ∧ k + 1 < H.length ∧ 0 ≤ area (nth H 0) (nth H k) p ∧ 0 ≤ area (nth H k) (nth H (k + 1)) p ∧ 0 ≤ area (nth H (k + 1)) (nth H 0) p := by
  have h0 := hp 0 (by omega)
  have hl := hp (H.length - 1) (by omega)
  have e0 : nxt H 0 = 1 := by unfold nxt; rw [if_neg (by omega)]
  have el : nxt H (H.length - 1) = 0 := by unfold nxt; rw [if_pos (by omega)]
  rw [e0] at h0
  rw [el, area_sw] at hl
  obtain ⟨k, k1, k2, k3, k4⟩ := ivt (fun k => area (nth H 0) (nth H k) p) (H.length - 3) 1 h0 (by
    show area (nth H 0) (nth H (1 + (H.length - 3) + 1)) p ≤ 0
    rw [show 1 + (H.length - 3) + 1 = H.length - 1 by omega]
    omega)
  have hk := hp k (by omega)
  have ek : nxt H k = k + 1 := by unfold nxt; rw [if_neg (by omega)]
  rw [ek] at hk
  exact ⟨k, k1, by omega, k3, hk, by rw [area_sw]; have : area (nth H 0) (nth H (k + 1)) p ≤ 0 := k4; omega⟩
theorem seg_sw {p a b : P2} (h : Seg p a b) : Seg p b a := by
  obtain ⟨h1, h2, h3⟩ := h
  refine ⟨by rw [area_sw]; omega, ?_, ?_⟩
  · unfold Bw at *; omega
  · unfold Bw at *; omega
/-- few corners: on the segment -/
theorem IsHull.seg {pts H : List P2} (h : IsHull pts H) (hm : H.length < 3) {p : P2} (hp : p ∈ pts) : Seg p (nth H 0) (nth H (H.length - 1)) := by
  have h0 := h.pos
  have e0 := h.edge h0 p hp
  by_cases h1 : H.length = 1
  · have e : nxt H 0 = 0 := by unfold nxt; rw [if_pos (by omega)]
    rw [e] at e0
    rw [h1]
    rcases e0 with e0 | e0
    · rw [area_00] at e0; omega
    · exact e0
  · have h2 : H.length = 2 := by omega
    have e : nxt H 0 = 1 := by unfold nxt; rw [if_neg (by omega)]
    have e1 := h.edge (i := 1) (by omega) p hp
    have e' : nxt H 1 = 0 := by unfold nxt; rw [if_pos (by omega)]
    rw [e] at e0
    rw [e'] at e1
    rw [h2]
    rcases e0 with e0 | e0
    · rcases e1 with e1 | e1
      · rw [area_sw] at e1; omega
      · exact seg_sw e1
    · exact e0
end GM

/-! GM5: what is in a polygon: by half planes, by triangles; inside; on the sides. -/
namespace GM
abbrev Fn := Int × Int × Int
def cv (f : Fn) (p : P2) : Int := f.1 * p.1 + f.2.1 * p.2 - f.2.2
def side (a b : P2) : Fn := (a.2 - b.2, b.1 - a.1, (a.2 - b.2) * a.1 + (b.1 - a.1) * a.2)
theorem cv_side (a b p : P2) : cv (side a b) p = area a b p := by
  unfold cv side area
  grind
/-- of the least convex set -/
def In (H : List P2) (p : P2) : Prop := ∀ f : Fn, (∀ h ∈ H, 0 ≤ cv f h) → 0 ≤ cv f p
theorem tri_id (f : Fn) (a b c p : P2) : area a b c * cv f p = area b c p * cv f a + area c a p * cv f b + area a b p * cv f c := by
  unfold area cv
  grind
theorem seg_id1 (f : Fn) (a b p : P2) : (b.1 - a.1) * cv f p = (b.1 - p.1) * cv f a + (p.1 - a.1) * cv f b + f.2.1 * area a b p := by
  unfold area cv
  grind
theorem seg_id2 (f : Fn) (a b p : P2) : (b.2 - a.2) * cv f p = (b.2 - p.2) * cv f a + (p.2 - a.2) * cv f b - f.1 * area a b p := by
  unfold area cv
  grind
/-- along a segment: a share of it -/
theorem seg_share {a b p : P2} (h : Seg p a b) : ∃ m n : Int, 0 ≤ m ∧ 0 ≤ n ∧ 0 < m + n ∧ ∀ f : Fn, (m + n) * cv f p = m * cv f a + n * cv f b := by
  obtain ⟨h0, h1, h2⟩ := h
  unfold Bw at h1 h2
  rcases Int.lt_trichotomy a.1 b.1 with k | k | k
  · refine ⟨b.1 - p.1, p.1 - a.1, by omega, by omega, by omega, fun f => ?_⟩
    have := seg_id1 f a b p
    rw [h0, Int.mul_zero, Int.add_zero] at this
    rw [← this]
    congr 1
    omega
  · rcases Int.lt_trichotomy a.2 b.2 with k2 | k2 | k2
    · refine ⟨b.2 - p.2, p.2 - a.2, by omega, by omega, by omega, fun f => ?_⟩
      have := seg_id2 f a b p
      rw [h0, Int.mul_zero, Int.sub_zero] at this
      rw [← this]
      congr 1
      omega
    · refine ⟨1, 0, by omega, by omega, by omega, fun f => ?_⟩
      have : p = a := Prod.ext (by omega) (by omega)
      rw [this]
      omega
    · refine ⟨p.2 - b.2, a.2 - p.2, by omega, by omega, by omega, fun f => ?_⟩
      have := seg_id2 f a b p
      rw [h0, Int.mul_zero, Int.sub_zero] at this
      have e1 : (p.2 - b.2) * cv f a = -((b.2 - p.2) * cv f a) := by rw [← Int.neg_mul]; congr 1; omega
      have e2 : (a.2 - p.2) * cv f b = -((p.2 - a.2) * cv f b) := by rw [← Int.neg_mul]; congr 1; omega
      have e3 : (p.2 - b.2 + (a.2 - p.2)) * cv f p = -((b.2 - a.2) * cv f p) := by rw [← Int.neg_mul]; congr 1; omega
      omega
  · refine ⟨p.1 - b.1, a.1 - p.1, by omega, by omega, by omega, fun f => ?_⟩
    have := seg_id1 f a b p
    rw [h0, Int.mul_zero, Int.add_zero] at this
    have e1 : (p.1 - b.1) * cv f a = -((b.1 - p.1) * cv f a) := by rw [← Int.neg_mul]; congr 1; omega
    have e2 : (a.1 - p.1) * cv f b = -((p.1 - a.1) * cv f b) := by rw [← Int.neg_mul]; congr 1; omega
    have e3 : (p.1 - b.1 + (a.1 - p.1)) * cv f p = -((b.1 - a.1) * cv f p) := by rw [← Int.neg_mul]; congr 1; omega
    omega
theorem seg_nonneg {f : Fn} {a b p : P2} (h : Seg p a b) (ha : 0 ≤ cv f a) (hb : 0 ≤ cv f b) : 0 ≤ cv f p := by
  obtain ⟨m, n, hm, hn, hk, e⟩ := seg_share h
  have e := e f
  have h1 := Int.mul_nonneg hm ha
  have h2 := Int.mul_nonneg hn hb
  exact nonneg_of_mul hk (by omega)
theorem seg_pos {f : Fn} {a b p : P2} (h : Seg p a b) (ha : 0 < cv f a) (hb : 0 < cv f b) : 0 < cv f p := by
  obtain ⟨m, n, hm, hn, hk, e⟩ := seg_share h
  have e := e f
  rcases Int.lt_or_le 0 m with k | k
  · have h1 := Int.mul_pos k ha
    have h2 := Int.mul_nonneg hn (Int.le_of_lt hb)
    exact pos_of_mul hk (by omega)
  · have h1 := Int.mul_nonneg hm (Int.le_of_lt ha)
    have h2 := Int.mul_pos (show 0 < n by omega) hb
    exact pos_of_mul hk (by omega)
theorem in_seg {H : List P2} {a b p : P2} (ha : a ∈ H) (hb : b ∈ H) (h : Seg p a b) : In H p := fun f hf => seg_nonneg h (hf a ha) (hf b hb)
theorem in_tri {H : List P2} {a b c p : P2} (ha : a ∈ H) (hb : b ∈ H) (hc : c ∈ H) (hD : 0 < area a b c) (h1 : 0 ≤ area a b p) (h2 : 0 ≤ area b c p) (h3 : 0 ≤ area c a p) : In H p := fun f hf => by
  have e := tri_id f a b c p
  have k1 := Int.mul_nonneg h2 (hf a ha)
  have k2 := Int.mul_nonneg h3 (hf b hb)
  have k3 := Int.mul_nonneg h1 (hf c hc)
  exact nonneg_of_mul hD (by omega)
theorem in_self {H : List P2} {p : P2} (h : p ∈ H) : In H p := fun f hf => hf p h
theorem In.mono {H K : List P2} {p : P2} (h : In H p) (k : ∀ x ∈ H, In K x) : In K p := fun f hf => h f fun x hx => k x hx f hf
theorem In.x_ge {H : List P2} {p : P2} (h : In H p) {m : Int} (k : ∀ x ∈ H, m ≤ x.1) : m ≤ p.1 := by
  have := h (1, 0, m) fun x hx => by
    have := k x hx
    unfold cv
    simp only []
    omega
  unfold cv at this
  simp only [] at this
  omega
theorem In.x_le {H : List P2} {p : P2} (h : In H p) {m : Int} (k : ∀ x ∈ H, x.1 ≤ m) : p.1 ≤ m := by
  have := h (-1, 0, -m) fun x hx => by
    have := k x hx
    unfold cv
    simp only []
    omega
  unfold cv at this
  simp only [] at this
  omega
theorem In.y_ge {H : List P2} {p : P2} (h : In H p) {m : Int} (k : ∀ x ∈ H, m ≤ x.2) : m ≤ p.2 := by
  have := h (0, 1, m) fun x hx => by
    have := k x hx
    unfold cv
    simp only []
    omega
  unfold cv at this
  simp only [] at this
  omega
theorem In.y_le {H : List P2} {p : P2} (h : In H p) {m : Int} (k : ∀ x ∈ H, x.2 ≤ m) : p.2 ≤ m := by
  have := h (0, -1, -m) fun x hx => by
    have := k x hx
    unfold cv
    simp only []
    omega
  unfold cv at this
  simp only [] at this
  omega
/-! ### polygons -/
/-- the law's test -/
def inP (p : P2) (H : List P2) : Prop := if H.length < 3 then Seg p (nth H 0) (nth H (H.length - 1)) else
  ∃ k, 1 ≤ k ∧ k + 1 < H.length ∧ 0 ≤ area (nth H 0) (nth H k) p ∧ 0 ≤ area (nth H k) (nth H (k + 1)) p ∧ 0 ≤ area (nth H (k + 1)) (nth H 0) p
section
variable {H : List P2}
theorem fan_pos (hH : IsHull H H) {k : Nat} (k1 : 1 ≤ k) (k2 : k + 1 < H.length) : 0 < area (nth H 0) (nth H k) (nth H (k + 1)) := by
  have hk : k < H.length := by omega
  have e := hH.edge hk
  have en : nxt H k = k + 1 := by unfold nxt; rw [if_neg (by omega)]
  rw [en] at e
  have h0 : 0 < H.length := by omega
  rcases e _ (nth_mem h0) with e | e
  · rw [area_cyc] at e
    exact e
  · exfalso
    obtain ⟨a, r, eH, hl, _⟩ := hH.least
    have ea : nth H 0 = a := by rw [eH]; rfl
    have l1 := hl _ (nth_mem hk)
    have l2 := hl _ (nth_mem k2)
    rw [ea] at e
    have n1 : nth H k ≠ a := fun z => by
      have := nth_inj hH.nd hk h0 (z.trans ea.symm)
      omega
    have n2 : nth H (k + 1) ≠ a := fun z => by
      have := nth_inj hH.nd k2 h0 (z.trans ea.symm)
      omega
    obtain ⟨B, hB, hb⟩ := exists_f H
    have ha : a ∈ H := by rw [eH]; exact List.mem_cons_self
    have f1 := f_lt hB (hb _ ha) (hb _ (nth_mem hk)) (l1.resolve_left n1)
    have f2 := f_lt hB (hb _ ha) (hb _ (nth_mem k2)) (l2.resolve_left n2)
    have := seg_pos (f := (2 * B + 1, 1, lin (2 * B + 1) 1 a)) e (by unfold cv; unfold lin at *; simp only []; omega) (by unfold cv; unfold lin at *; simp only []; omega)
    unfold cv lin at this
    simp only [] at this
    omega
theorem inP_In (hH : IsHull H H) {p : P2} (h : inP p H) : In H p := by
  have h0 := hH.pos
  unfold inP at h
  split at h
  · exact in_seg (nth_mem h0) (nth_mem (by omega)) h
  · obtain ⟨k, k1, k2, t1, t2, t3⟩ := h
    exact in_tri (nth_mem h0) (nth_mem (by omega)) (nth_mem k2) (fan_pos hH k1 k2) t1 t2 t3
theorem In.edge (hH : IsHull H H) {p : P2} (h : In H p) {i : Nat} (hi : i < H.length) : 0 ≤ area (nth H i) (nth H (nxt H i)) p := by
  have := h (side (nth H i) (nth H (nxt H i))) fun x hx => by
    rw [cv_side]
    exact edge_nonneg (hH.edge hi) hx
  rw [cv_side] at this
  exact this
theorem mem1 (h1 : H.length = 1) {x : P2} (hx : x ∈ H) : x = nth H 0 := by
  obtain ⟨i, hi, e⟩ := mem_nth hx
  have : i = 0 := by omega
  rw [← e, this]
theorem mem2 (h2 : H.length = 2) {x : P2} (hx : x ∈ H) : x = nth H 0 ∨ x = nth H 1 := by
  obtain ⟨i, hi, e⟩ := mem_nth hx
  rcases (by omega : i = 0 ∨ i = 1) with z | z
  · left; rw [← e, z]
  · right; rw [← e, z]
theorem in_of (hH : IsHull H H) {p : P2} (x1 : ∃ h ∈ H, h.1 ≤ p.1) (x2 : ∃ h ∈ H, p.1 ≤ h.1) (y1 : ∃ h ∈ H, h.2 ≤ p.2) (y2 : ∃ h ∈ H, p.2 ≤ h.2) (he : ∀ i, i < H.length → 0 ≤ area (nth H i) (nth H (nxt H i)) p) : inP p H := by
  have h0 := hH.pos
  unfold inP
  by_cases hm : H.length < 3
  · rw [if_pos hm]
    obtain ⟨a1, m1, k1⟩ := x1
    obtain ⟨a2, m2, k2⟩ := x2
    obtain ⟨a3, m3, k3⟩ := y1
    obtain ⟨a4, m4, k4⟩ := y2
    by_cases h1 : H.length = 1
    · rw [mem1 h1 m1] at k1
      rw [mem1 h1 m2] at k2
      rw [mem1 h1 m3] at k3
      rw [mem1 h1 m4] at k4
      rw [h1]
      have : p = nth H 0 := Prod.ext (by omega) (by omega)
      show Seg p (nth H 0) (nth H 0)
      rw [this]
      exact ⟨area_00 _ _, .inl ⟨Int.le_refl _, Int.le_refl _⟩, .inl ⟨Int.le_refl _, Int.le_refl _⟩⟩
    · have h2 : H.length = 2 := by omega
      have e0 := he 0 (by omega)
      have e1 := he 1 (by omega)
      have n0 : nxt H 0 = 1 := by unfold nxt; rw [if_neg (by omega)]
      have n1 : nxt H 1 = 0 := by unfold nxt; rw [if_pos (by omega)]
      rw [n0] at e0
      rw [n1, area_sw] at e1
      rw [h2]
      show Seg p (nth H 0) (nth H 1)
      refine ⟨by omega, ?_, ?_⟩
      · unfold Bw
        rcases mem2 h2 m1 with z | z <;> rcases mem2 h2 m2 with w | w <;> rw [z] at k1 <;> rw [w] at k2 <;> omega
      · unfold Bw
        rcases mem2 h2 m3 with z | z <;> rcases mem2 h2 m4 with w | w <;> rw [z] at k3 <;> rw [w] at k4 <;> omega
  · rw [if_neg hm]
    exact tri (by omega) he
/-- some corner is least for a functional -/
theorem least_f (f : Fn) : ∀ {l : List P2}, 0 < l.length → ∃ x ∈ l, ∀ y ∈ l, cv f x ≤ cv f y
  | [a], _ => ⟨a, List.mem_cons_self, fun y hy => by rw [List.mem_singleton.mp hy]; exact Int.le_refl _⟩
  | a :: b :: l, _ => by
    obtain ⟨x, hx, h⟩ := least_f f (l := b :: l) (by simp)
    by_cases k : cv f a ≤ cv f x
    · refine ⟨a, List.mem_cons_self, fun y hy => ?_⟩
      rcases List.mem_cons.mp hy with rfl | hy
      · exact Int.le_refl _
      · exact Int.le_trans k (h y hy)
    · refine ⟨x, List.mem_cons_of_mem _ hx, fun y hy => ?_⟩
      rcases List.mem_cons.mp hy with rfl | hy
      · omega
      · exact h y hy
theorem In_inP (hH : IsHull H H) {p : P2} (h : In H p) : inP p H := by
  have h0 := hH.pos
  refine in_of hH ?_ ?_ ?_ ?_ fun i hi => h.edge hH hi
  · obtain ⟨x, hx, k⟩ := least_f (1, 0, 0) h0
    exact ⟨x, hx, h.x_ge fun y hy => by have := k y hy; unfold cv at this; simp only [] at this; omega⟩
  · obtain ⟨x, hx, k⟩ := least_f (-1, 0, 0) h0
    exact ⟨x, hx, h.x_le fun y hy => by have := k y hy; unfold cv at this; simp only [] at this; omega⟩
  · obtain ⟨x, hx, k⟩ := least_f (0, 1, 0) h0
    exact ⟨x, hx, h.y_ge fun y hy => by have := k y hy; unfold cv at this; simp only [] at this; omega⟩
  · obtain ⟨x, hx, k⟩ := least_f (0, -1, 0) h0
    exact ⟨x, hx, h.y_le fun y hy => by have := k y hy; unfold cv at this; simp only [] at this; omega⟩
theorem inP_iff (hH : IsHull H H) {p : P2} : inP p H ↔ In H p := ⟨inP_In hH, In_inP hH⟩
/-! ### inside -/
def Str (H : List P2) (p : P2) : Prop := 3 ≤ H.length ∧ ∀ i, i < H.length → 0 < area (nth H i) (nth H (nxt H i)) p
theorem Str.in (hH : IsHull H H) {p : P2} (h : Str H p) : In H p := by
  refine inP_In hH ?_
  unfold inP
  rw [if_neg (by have := h.1; omega)]
  exact tri h.1 fun i hi => Int.le_of_lt (h.2 i hi)
/-- the corner ahead -/
theorem prev_of {i : Nat} (hi : i < H.length) : ∃ j, j < H.length ∧ nxt H j = i := by
  by_cases h : i = 0
  · refine ⟨H.length - 1, by omega, ?_⟩
    unfold nxt
    rw [if_pos (by omega), h]
  · refine ⟨i - 1, by omega, ?_⟩
    unfold nxt
    rw [if_neg (by omega)]
    omega
theorem flat3 {f : Fn} {a b c : P2} (hD : area a b c ≠ 0) (ha : cv f a = 0) (hb : cv f b = 0) (hc : cv f c = 0) : f.1 = 0 ∧ f.2.1 = 0 := by
  have e1 : area a b c * f.1 = (c.2 - a.2) * (cv f b - cv f a) - (b.2 - a.2) * (cv f c - cv f a) := by
    unfold area cv
    grind
  have e2 : area a b c * f.2.1 = (b.1 - a.1) * (cv f c - cv f a) - (c.1 - a.1) * (cv f b - cv f a) := by
    unfold area cv
    grind
  rw [ha, hb, hc] at e1 e2
  simp only [Int.sub_self, Int.mul_zero] at e1 e2
  exact ⟨(Int.mul_eq_zero.mp e1).resolve_left hD, (Int.mul_eq_zero.mp e2).resolve_left hD⟩
theorem Str.pos (hH : IsHull H H) {p : P2} (h : Str H p) {f : Fn} (hf : f.1 ≠ 0 ∨ f.2.1 ≠ 0) (h0 : ∀ x ∈ H, 0 ≤ cv f x) : 0 < cv f p := by
  obtain ⟨x, hx, hl⟩ := least_f f hH.pos
  obtain ⟨i, hi, ei⟩ := mem_nth hx
  obtain ⟨j, hj, ej⟩ := prev_of hi
  have h1 := nxt_lt hi
  have s := hH.strict h.1 hj
  rw [ej] at s
  have p1 := h.2 j hj
  rw [ej] at p1
  have p2 := h.2 i hi
  -- the functional moved to be zero at the corner
  obtain ⟨g, eg⟩ : ∃ g : Fn, g = (f.1, f.2.1, f.2.2 + cv f x) := ⟨_, rfl⟩
  have cg : ∀ y, cv g y = cv f y - cv f x := fun y => by rw [eg]; unfold cv; simp only []; omega
  have ge : ∀ y ∈ H, 0 ≤ cv g y := fun y hy => by
    have := hl y hy
    rw [cg]
    omega
  have z : cv g (nth H i) = 0 := by rw [cg, ei]; omega
  have e := tri_id g (nth H j) (nth H i) (nth H (nxt H i)) p
  rw [z, Int.mul_zero, Int.add_zero] at e
  have ga := ge _ (nth_mem hj)
  have gc := ge _ (nth_mem h1)
  have k1 := Int.mul_nonneg (Int.le_of_lt p2) ga
  have k2 := Int.mul_nonneg (Int.le_of_lt p1) gc
  have : 0 < cv g p := by
    refine pos_of_mul s ?_
    rcases Int.lt_or_le 0 (cv g (nth H j)) with a | a
    · have := Int.mul_pos p2 a
      omega
    · rcases Int.lt_or_le 0 (cv g (nth H (nxt H i))) with b | b
      · have := Int.mul_pos p1 b
        omega
      · exfalso
        have := flat3 (f := g) (show area (nth H j) (nth H i) (nth H (nxt H i)) ≠ 0 by omega) (by omega) z (by omega)
        rw [eg] at this
        simp only [] at this
        omega
  have := cg p
  have := h0 x hx
  omega
/-! ### on a side -/
theorem tilt {a b : P2} (g : Fn) : ∀ l : List P2, ∃ N : Int, 0 ≤ N ∧ ∀ h ∈ l, 0 < area a b h → 0 ≤ N * area a b h + cv g h
  | [] => ⟨0, Int.le_refl _, fun _ h => nomatch h⟩
  | x :: l => by
    obtain ⟨N, hN, k⟩ := tilt (a := a) (b := b) g l
    refine ⟨N + (cv g x).natAbs, by omega, fun h hh hp => ?_⟩
    rcases List.mem_cons.mp hh with rfl | hh
    · have h1 := Int.mul_nonneg hN (Int.le_of_lt hp)
      have h2 : ((cv g h).natAbs : Int) * 1 ≤ ((cv g h).natAbs : Int) * area a b h := Int.mul_le_mul_of_nonneg_left hp (by omega)
      rw [Int.add_mul]
      omega
    · have h1 := k h hh hp
      have h2 := Int.mul_nonneg (show (0 : Int) ≤ ((cv g x).natAbs : Int) by omega) (Int.le_of_lt hp)
      rw [Int.add_mul]
      omega
theorem In.face {a b p : P2} (he : Edge H a b) (h : In H p) (h0 : area a b p = 0) {g : Fn} (ga : 0 ≤ cv g a) (gb : 0 ≤ cv g b) : 0 ≤ cv g p := by
  obtain ⟨N, hN, k⟩ := tilt (a := a) (b := b) g H
  obtain ⟨f, ef⟩ : ∃ f : Fn, f = (N * (side a b).1 + g.1, N * (side a b).2.1 + g.2.1, N * (side a b).2.2 + g.2.2) := ⟨_, rfl⟩
  have cf : ∀ y, cv f y = N * area a b y + cv g y := fun y => by
    rw [ef, ← cv_side]
    unfold cv
    simp only []
    grind
  have := h f fun x hx => by
    rw [cf]
    rcases he x hx with z | z
    · exact k x hx z
    · rw [z.1, Int.mul_zero, Int.zero_add]
      exact seg_nonneg z ga gb
  rw [cf, h0, Int.mul_zero, Int.zero_add] at this
  exact this
theorem In.on_face {a b p : P2} (he : Edge H a b) (h : In H p) (h0 : area a b p = 0) : Seg p a b := by
  have x1 := fun m (ha : m ≤ a.1) (hb : m ≤ b.1) => h.face he h0 (g := (1, 0, m)) (by unfold cv; simp only []; omega) (by unfold cv; simp only []; omega)
  have x2 := fun m (ha : a.1 ≤ m) (hb : b.1 ≤ m) => h.face he h0 (g := (-1, 0, -m)) (by unfold cv; simp only []; omega) (by unfold cv; simp only []; omega)
  have y1 := fun m (ha : m ≤ a.2) (hb : m ≤ b.2) => h.face he h0 (g := (0, 1, m)) (by unfold cv; simp only []; omega) (by unfold cv; simp only []; omega)
  have y2 := fun m (ha : a.2 ≤ m) (hb : b.2 ≤ m) => h.face he h0 (g := (0, -1, -m)) (by unfold cv; simp only []; omega) (by unfold cv; simp only []; omega)
  refine ⟨h0, ?_, ?_⟩
  · unfold Bw
    rcases Int.le_total a.1 b.1 with k | k
    · have z1 := x1 a.1 (Int.le_refl _) k
      have z2 := x2 b.1 k (Int.le_refl _)
      unfold cv at z1 z2
      simp only [] at z1 z2
      omega
    · have z1 := x1 b.1 k (Int.le_refl _)
      have z2 := x2 a.1 (Int.le_refl _) k
      unfold cv at z1 z2
      simp only [] at z1 z2
      omega
  · unfold Bw
    rcases Int.le_total a.2 b.2 with k | k
    · have z1 := y1 a.2 (Int.le_refl _) k
      have z2 := y2 b.2 k (Int.le_refl _)
      unfold cv at z1 z2
      simp only [] at z1 z2
      omega
    · have z1 := y1 b.2 k (Int.le_refl _)
      have z2 := y2 a.2 (Int.le_refl _) k
      unfold cv at z1 z2
      simp only [] at z1 z2
      omega
theorem on_side (hH : IsHull H H) {p : P2} (h : In H p) (n : ¬ Str H p) : ∃ i, i < H.length ∧ Seg p (nth H i) (nth H (nxt H i)) := by
  have h0 := hH.pos
  by_cases hm : H.length < 3
  · have k := In_inP hH h
    unfold inP at k
    rw [if_pos hm] at k
    refine ⟨0, h0, ?_⟩
    have e : nxt H 0 = H.length - 1 := by unfold nxt; split <;> omega
    rw [e]
    exact k
  · by_cases c : ∃ i, i < H.length ∧ area (nth H i) (nth H (nxt H i)) p = 0
    · obtain ⟨i, hi, e⟩ := c
      exact ⟨i, hi, h.on_face (hH.edge hi) e⟩
    · exfalso
      refine n ⟨by omega, fun i hi => ?_⟩
      have h1 := h.edge hH hi
      have h2 : area (nth H i) (nth H (nxt H i)) p ≠ 0 := fun e => c ⟨i, hi, e⟩
      omega
end
end GM

/-! GM6: scaling; segments that meet. -/
namespace GM
def sc (k : Int) (p : P2) : P2 := (k * p.1, k * p.2)
def scL (k : Int) (H : List P2) : List P2 := H.map (sc k)
theorem sc_one (p : P2) : sc 1 p = p := by unfold sc; exact Prod.ext (Int.one_mul _) (Int.one_mul _)
theorem sc_sc (j k : Int) (p : P2) : sc j (sc k p) = sc (j * k) p := by
  unfold sc
  exact Prod.ext (Int.mul_assoc _ _ _).symm (Int.mul_assoc _ _ _).symm
theorem scL_scL (j k : Int) (H : List P2) : scL j (scL k H) = scL (j * k) H := by
  unfold scL
  rw [List.map_map]
  exact List.map_congr_left fun p _ => sc_sc j k p
theorem scL_one (H : List P2) : scL 1 H = H := by
  unfold scL
  rw [show sc 1 = id from funext sc_one, List.map_id]
theorem area_sc (k : Int) (a b c : P2) : area (sc k a) (sc k b) (sc k c) = k * k * area a b c := by
  unfold area sc
  grind
theorem sc_inj {k : Int} (hk : 0 < k) {p q : P2} (h : sc k p = sc k q) : p = q := by
  unfold sc at h
  injection h with h1 h2
  exact Prod.ext (Int.eq_of_mul_eq_mul_left (by omega) h1) (Int.eq_of_mul_eq_mul_left (by omega) h2)
theorem le_sc {k x y : Int} (hk : 0 < k) : k * x ≤ k * y ↔ x ≤ y := Int.mul_le_mul_left hk
theorem bw_sc {k x y z : Int} (hk : 0 < k) : Bw (k * x) (k * y) (k * z) ↔ Bw x y z := by
  unfold Bw
  rw [le_sc hk, le_sc hk, le_sc hk, le_sc hk]
theorem sq_pos {k : Int} (hk : 0 < k) : 0 < k * k := Int.mul_pos hk hk
theorem zero_sc {k x : Int} (hk : 0 < k) : k * k * x = 0 ↔ x = 0 := ⟨fun h => zero_of_mul (sq_pos hk) h, fun h => by rw [h, Int.mul_zero]⟩
theorem pos_sc {k x : Int} (hk : 0 < k) : 0 < k * k * x ↔ 0 < x := ⟨fun h => pos_of_mul (sq_pos hk) h, fun h => Int.mul_pos (sq_pos hk) h⟩
theorem nonneg_sc {k x : Int} (hk : 0 < k) : 0 ≤ k * k * x ↔ 0 ≤ x := ⟨fun h => nonneg_of_mul (sq_pos hk) h, fun h => Int.mul_nonneg (Int.le_of_lt (sq_pos hk)) h⟩
theorem seg_sc {k : Int} (hk : 0 < k) {p a b : P2} : Seg (sc k p) (sc k a) (sc k b) ↔ Seg p a b := by
  unfold Seg
  rw [area_sc, zero_sc hk]
  show (_ ∧ Bw (k * a.1) (k * p.1) (k * b.1) ∧ Bw (k * a.2) (k * p.2) (k * b.2)) ↔ _
  rw [bw_sc hk, bw_sc hk]
theorem scL_len (k : Int) (H : List P2) : (scL k H).length = H.length := List.length_map ..
theorem nth_sc (k : Int) {H : List P2} {i : Nat} (hi : i < H.length) : nth (scL k H) i = sc k (nth H i) := by
  unfold nth scL
  rw [List.getD_eq_getElem?_getD, List.getD_eq_getElem?_getD, List.getElem?_map, List.getElem?_eq_getElem hi]
  rfl
theorem nxt_sc (k : Int) (H : List P2) (i : Nat) : nxt (scL k H) i = nxt H i := by
  unfold nxt
  rw [scL_len]
theorem mem_sc {k : Int} {H : List P2} {p : P2} : p ∈ scL k H ↔ ∃ q ∈ H, sc k q = p := List.mem_map
theorem edge_sc {k : Int} (hk : 0 < k) {H : List P2} {a b : P2} (h : Edge H a b) : Edge (scL k H) (sc k a) (sc k b) := fun p hp => by
  obtain ⟨q, hq, rfl⟩ := mem_sc.mp hp
  rw [area_sc, pos_sc hk, seg_sc hk]
  exact h q hq
theorem steps_map {R S : P2 → P2 → Prop} {g : P2 → P2} (h : ∀ a b, R a b → S (g a) (g b)) : ∀ {l : List P2}, Steps R l → Steps S (l.map g)
  | [], _ => trivial
  | [_], _ => trivial
  | a :: b :: r, k => ⟨h a b k.1, steps_map h (l := b :: r) k.2⟩
theorem hull_sc {k : Int} (hk : 0 < k) {H : List P2} (h : IsHull H H) : IsHull (scL k H) (scL k H) := by
  obtain ⟨_, hn, a, r, e, hl, hs⟩ := h
  refine ⟨fun _ h => h, ?_, sc k a, scL k r, by rw [e]; rfl, fun p hp => ?_, ?_⟩
  · unfold scL
    exact List.Pairwise.map _ (fun a b n z => n (sc_inj hk z)) hn
  · obtain ⟨q, hq, rfl⟩ := mem_sc.mp hp
    rcases hl q hq with z | z
    · exact .inl (by rw [z])
    · refine .inr ?_
      unfold Lt sc at *
      simp only []
      rcases z with z | ⟨z1, z2⟩
      · exact .inl (Int.mul_lt_mul_of_pos_left z hk)
      · exact .inr ⟨by rw [z1], Int.mul_lt_mul_of_pos_left z2 hk⟩
  · have := steps_map (g := sc k) (fun a b => edge_sc hk (H := H)) hs
    rw [List.map_append] at this
    exact this
/-- a functional seen at another scale -/
theorem cv_sc (k : Int) (f : Fn) (p : P2) : cv (f.1, f.2.1, k * f.2.2) (sc k p) = k * cv f p := by
  unfold cv sc
  simp only []
  grind
theorem cv_sc2 (k : Int) (f : Fn) (p : P2) : cv f (sc k p) = cv (k * f.1, k * f.2.1, f.2.2) p := by
  unfold cv sc
  simp only []
  grind
theorem in_sc {k : Int} (hk : 0 < k) {H : List P2} {p : P2} : In (scL k H) (sc k p) ↔ In H p := by
  constructor
  · intro h f hf
    have := h (f.1, f.2.1, k * f.2.2) fun x hx => by
      obtain ⟨q, hq, rfl⟩ := mem_sc.mp hx
      rw [cv_sc]
      exact Int.mul_nonneg (Int.le_of_lt hk) (hf q hq)
    rw [cv_sc] at this
    exact nonneg_of_mul hk this
  · intro h f hf
    rw [cv_sc2]
    exact h _ fun x hx => by
      rw [← cv_sc2]
      exact hf _ (mem_sc.mpr ⟨x, hx, rfl⟩)
theorem str_sc {k : Int} (hk : 0 < k) {H : List P2} {p : P2} : Str (scL k H) (sc k p) ↔ Str H p := by
  unfold Str
  rw [scL_len]
  constructor
  · rintro ⟨h1, h2⟩
    refine ⟨h1, fun i hi => ?_⟩
    have := h2 i hi
    rw [nth_sc k hi, nxt_sc, nth_sc k (nxt_lt hi), area_sc, pos_sc hk] at this
    exact this
  · rintro ⟨h1, h2⟩
    refine ⟨h1, fun i hi => ?_⟩
    rw [nth_sc k hi, nxt_sc, nth_sc k (nxt_lt hi), area_sc, pos_sc hk]
    exact h2 i hi
/-! ### segments that meet -/
def meetP (a b c d : P2) : Prop := Seg a c d ∨ Seg b c d ∨ Seg c a b ∨ Seg d a b ∨ (area a b c * area a b d < 0 ∧ area c d a * area c d b < 0)
theorem prod_sc {k x y : Int} (hk : 0 < k) : (k * k * x) * (k * k * y) < 0 ↔ x * y < 0 := by
  have e : (k * k * x) * (k * k * y) = (k * k) * (k * k) * (x * y) := by grind
  rw [e]
  have := sq_pos (sq_pos hk)
  constructor
  · intro h
    rcases Int.lt_or_le (x * y) 0 with z | z
    · exact z
    · have := Int.mul_nonneg (Int.le_of_lt this) z
      omega
  · intro h
    have := Int.mul_pos this (show 0 < -(x * y) by omega)
    rw [Int.mul_neg] at this
    omega
theorem meet_sc {k : Int} (hk : 0 < k) {a b c d : P2} : meetP (sc k a) (sc k b) (sc k c) (sc k d) ↔ meetP a b c d := by
  unfold meetP
  rw [seg_sc hk, seg_sc hk, seg_sc hk, seg_sc hk, area_sc, area_sc, area_sc, area_sc, prod_sc hk, prod_sc hk]
theorem seg_comb {a b x : P2} {m n : Int} (hm : 0 ≤ m) (hn : 0 ≤ n) (e1 : x.1 = m * a.1 + n * b.1) (e2 : x.2 = m * a.2 + n * b.2) : Seg x (sc (m + n) a) (sc (m + n) b) := by
  have bw : ∀ {p q y : Int}, y = m * p + n * q → Bw ((m + n) * p) y ((m + n) * q) := fun {p q y} e => by
    have d1 : (m + n) * p = m * p + n * p := Int.add_mul _ _ _
    have d2 : (m + n) * q = m * q + n * q := Int.add_mul _ _ _
    unfold Bw
    rcases Int.le_total p q with z | z
    · have z1 := Int.mul_le_mul_of_nonneg_left z hm
      have z2 := Int.mul_le_mul_of_nonneg_left z hn
      omega
    · have z1 := Int.mul_le_mul_of_nonneg_left z hm
      have z2 := Int.mul_le_mul_of_nonneg_left z hn
      omega
  refine ⟨?_, bw e1, bw e2⟩
  unfold area sc
  simp only []
  rw [e1, e2]
  grind
theorem seg_left (a b : P2) : Seg a a b := ⟨area_aa a b, by unfold Bw; omega, by unfold Bw; omega⟩
theorem seg_right (a b : P2) : Seg b a b := ⟨area_ab a b, by unfold Bw; omega, by unfold Bw; omega⟩
theorem four_pt (a b c d : P2) : area a b d * c.1 - area a b c * d.1 = area c d a * b.1 - area c d b * a.1 ∧ area a b d * c.2 - area a b c * d.2 = area c d a * b.2 - area c d b * a.2 ∧ area a b d - area a b c = area c d a - area c d b := by
  unfold area
  refine ⟨?_, ?_, ?_⟩ <;> grind
theorem neg_prod {x y : Int} (h : x * y < 0) : (x < 0 ∧ 0 < y) ∨ (0 < x ∧ y < 0) := by
  rcases Int.lt_trichotomy x 0 with z | z | z
  · left
    refine ⟨z, ?_⟩
    rcases Int.lt_or_le 0 y with w | w
    · exact w
    · have := Int.mul_nonneg (show 0 ≤ -x by omega) (show 0 ≤ -y by omega)
      rw [Int.neg_mul_neg] at this
      omega
  · rw [z, Int.zero_mul] at h
    omega
  · right
    refine ⟨z, ?_⟩
    rcases Int.lt_or_le y 0 with w | w
    · exact w
    · have := Int.mul_nonneg (Int.le_of_lt z) w
      omega
/-- two segments that meet have a point in common -/
theorem meet_common {a b c d : P2} (h : meetP a b c d) : ∃ k x, 0 < k ∧ Seg x (sc k a) (sc k b) ∧ Seg x (sc k c) (sc k d) := by
  rcases h with h | h | h | h | ⟨h1, h2⟩
  · exact ⟨1, a, by decide, by rw [sc_one, sc_one]; exact seg_left a b, by rw [sc_one, sc_one]; exact h⟩
  · exact ⟨1, b, by decide, by rw [sc_one, sc_one]; exact seg_right a b, by rw [sc_one, sc_one]; exact h⟩
  · exact ⟨1, c, by decide, by rw [sc_one, sc_one]; exact h, by rw [sc_one, sc_one]; exact seg_left c d⟩
  · exact ⟨1, d, by decide, by rw [sc_one, sc_one]; exact h, by rw [sc_one, sc_one]; exact seg_right c d⟩
  · obtain ⟨f1, f2, f3⟩ := four_pt a b c d
    rcases neg_prod h1 with ⟨s, t⟩ | ⟨s, t⟩
    · -- c on the right, d on the left
      have e : 0 < area c d a - area c d b := by omega
      have pq : area c d b < 0 ∧ 0 < area c d a := by
        rcases neg_prod h2 with z | z
        · omega
        · omega
      refine ⟨area a b d - area a b c, (area a b d * c.1 - area a b c * d.1, area a b d * c.2 - area a b c * d.2), by omega, ?_, ?_⟩
      · have := seg_comb (a := a) (b := b) (x := (area a b d * c.1 - area a b c * d.1, area a b d * c.2 - area a b c * d.2)) (m := -area c d b) (n := area c d a) (by omega) (by omega) (by simp only []; rw [f1, Int.neg_mul]; omega) (by simp only []; rw [f2, Int.neg_mul]; omega)
        rw [show -area c d b + area c d a = area a b d - area a b c by omega] at this
        exact this
      · have := seg_comb (a := c) (b := d) (x := (area a b d * c.1 - area a b c * d.1, area a b d * c.2 - area a b c * d.2)) (m := area a b d) (n := -area a b c) (by omega) (by omega) (by simp only []; rw [Int.neg_mul]; omega) (by simp only []; rw [Int.neg_mul]; omega)
        rw [show area a b d + -area a b c = area a b d - area a b c by omega] at this
        exact this
    · have pq : area c d a < 0 ∧ 0 < area c d b := by
        rcases neg_prod h2 with z | z
        · omega
        · omega
      refine ⟨area a b c - area a b d, (area a b c * d.1 - area a b d * c.1, area a b c * d.2 - area a b d * c.2), by omega, ?_, ?_⟩
      · have := seg_comb (a := a) (b := b) (x := (area a b c * d.1 - area a b d * c.1, area a b c * d.2 - area a b d * c.2)) (m := area c d b) (n := -area c d a) (by omega) (by omega) (by simp only []; rw [Int.neg_mul]; omega) (by simp only []; rw [Int.neg_mul]; omega)
        rw [show area c d b + -area c d a = area a b c - area a b d by omega] at this
        exact this
      · have := seg_comb (a := c) (b := d) (x := (area a b c * d.1 - area a b d * c.1, area a b c * d.2 - area a b d * c.2)) (m := -area a b d) (n := area a b c) (by omega) (by omega) (by simp only []; rw [Int.neg_mul]; omega) (by simp only []; rw [Int.neg_mul]; omega)
        rw [show -area a b d + area a b c = area a b c - area a b d by omega] at this
        exact this
/-- on a segment, zero where an end alone is zero: that end -/
theorem seg_end {f : Fn} {x c d : P2} (h : Seg x c d) (hc : cv f c = 0) (hd : cv f d ≠ 0) (hx : cv f x = 0) : x = c := by
  obtain ⟨m, n, hm, hn, hk, e⟩ := seg_share h
  have e0 := e f
  rw [hc, hx, Int.mul_zero, Int.mul_zero, Int.zero_add] at e0
  have n0 : n = 0 := by
    rcases Int.mul_eq_zero.mp e0.symm with z | z
    · exact z
    · exact absurd z hd
  have e1 := e (1, 0, 0)
  have e2 := e (0, 1, 0)
  rw [n0] at e1 e2
  unfold cv at e1 e2
  simp only [Int.zero_mul, Int.add_zero, Int.one_mul, Int.zero_add, Int.sub_zero] at e1 e2
  exact Prod.ext (Int.eq_of_mul_eq_mul_left (by omega) e1) (Int.eq_of_mul_eq_mul_left (by omega) e2)
theorem seg_neg {f : Fn} {a b p : P2} (h : Seg p a b) (ha : cv f a < 0) (hb : cv f b < 0) : cv f p < 0 := by
  have e : ∀ q, cv (-f.1, -f.2.1, -f.2.2) q = -cv f q := fun q => by unfold cv; simp only []; grind
  have := seg_pos (f := (-f.1, -f.2.1, -f.2.2)) h (by rw [e]; omega) (by rw [e]; omega)
  rw [e] at this
  omega
/-- all on one line -/
theorem seg_line1 {a b p : P2} (n : a.1 ≠ b.1) (h : area a b p = 0) (hb : Bw a.1 p.1 b.1) : Seg p a b := by
  rcases Int.lt_or_le a.1 b.1 with k | k
  · refine seg_of_f (u := 1) (v := 0) ?_ h ?_ ?_ <;> unfold lin <;> unfold Bw at hb <;> omega
  · refine seg_of_f (u := -1) (v := 0) ?_ h ?_ ?_ <;> unfold lin <;> unfold Bw at hb <;> omega
theorem seg_line2 {a b p : P2} (n : a.2 ≠ b.2) (h : area a b p = 0) (hb : Bw a.2 p.2 b.2) : Seg p a b := by
  rcases Int.lt_or_le a.2 b.2 with k | k
  · refine seg_of_f (u := 0) (v := 1) ?_ h ?_ ?_ <;> unfold lin <;> unfold Bw at hb <;> omega
  · refine seg_of_f (u := 0) (v := -1) ?_ h ?_ ?_ <;> unfold lin <;> unfold Bw at hb <;> omega
theorem line_tr {a b c d : P2} (n : a ≠ b) (hc : area a b c = 0) (hd : area a b d = 0) : area c d a = 0 ∧ area c d b = 0 := by
  have e1 : (b.1 - a.1) * area c d a = -((d.1 - c.1) * area a b c) - (area a b d - area a b c) * (a.1 - c.1) := by unfold area; grind
  have e2 : (b.2 - a.2) * area c d a = -((d.2 - c.2) * area a b c) - (area a b d - area a b c) * (a.2 - c.2) := by unfold area; grind
  have e3 : (b.1 - a.1) * area c d b = -((d.1 - c.1) * area a b c) - (area a b d - area a b c) * (b.1 - c.1) := by unfold area; grind
  have e4 : (b.2 - a.2) * area c d b = -((d.2 - c.2) * area a b c) - (area a b d - area a b c) * (b.2 - c.2) := by unfold area; grind
  rw [hc, hd] at e1 e2 e3 e4
  simp only [Int.mul_zero, Int.sub_self, Int.zero_mul, Int.neg_zero] at e1 e2 e3 e4
  have ne : b.1 - a.1 ≠ 0 ∨ b.2 - a.2 ≠ 0 := by
    by_cases h : a.1 = b.1
    · right
      intro z
      exact n (Prod.ext h (by omega))
    · left
      omega
  rcases ne with z | z
  · exact ⟨(Int.mul_eq_zero.mp e1).resolve_left z, (Int.mul_eq_zero.mp e3).resolve_left z⟩
  · exact ⟨(Int.mul_eq_zero.mp e2).resolve_left z, (Int.mul_eq_zero.mp e4).resolve_left z⟩
theorem meet_half {a b c d x : P2} (h : Seg x a b) (k : Seg x c d) : area a b c * area a b d < 0 ∨ Seg a c d ∨ Seg b c d ∨ Seg c a b ∨ Seg d a b := by
  have hx : cv (side a b) x = 0 := by rw [cv_side]; exact h.1
  rcases Int.lt_trichotomy (area a b c) 0 with s | s | s <;> rcases Int.lt_trichotomy (area a b d) 0 with t | t | t
  · exfalso
    have := seg_neg (f := side a b) k (by rw [cv_side]; exact s) (by rw [cv_side]; exact t)
    omega
  · have := seg_end (f := side a b) (seg_sw k) (by rw [cv_side]; exact t) (by rw [cv_side]; omega) hx
    exact .inr (.inr (.inr (.inr (by rw [← this]; exact h))))
  · left
    have := Int.mul_pos (show 0 < -area a b c by omega) t
    rw [Int.neg_mul] at this
    omega
  · have := seg_end (f := side a b) k (by rw [cv_side]; exact s) (by rw [cv_side]; omega) hx
    exact .inr (.inr (.inr (.inl (by rw [← this]; exact h))))
  · -- all on one line
    right
    by_cases e : a = b
    · subst e
      have : x = a := Prod.ext (by have := h.2.1; unfold Bw at this; omega) (by have := h.2.2; unfold Bw at this; omega)
      exact .inl (by rw [← this]; exact k)
    · obtain ⟨z1, z2⟩ := line_tr e s t
      obtain ⟨h0, h1, h2⟩ := h
      obtain ⟨k0, k1, k2⟩ := k
      by_cases n1 : a.1 = b.1
      · have n2 : a.2 ≠ b.2 := fun z => e (Prod.ext n1 z)
        by_cases m2 : c.2 = d.2
        · -- c is d
          have ex : x.2 = c.2 := by unfold Bw at k2; omega
          exact .inr (.inr (.inl (seg_line2 n2 s (by rw [← ex]; exact h2))))
        · by_cases q1 : Bw c.2 a.2 d.2
          · exact .inl (seg_line2 m2 z1 q1)
          · by_cases q2 : Bw c.2 b.2 d.2
            · exact .inr (.inl (seg_line2 m2 z2 q2))
            · refine .inr (.inr (.inl (seg_line2 n2 s ?_)))
              unfold Bw at *
              omega
      · by_cases m1 : c.1 = d.1
        · have ex : x.1 = c.1 := by unfold Bw at k1; omega
          exact .inr (.inr (.inl (seg_line1 n1 s (by rw [← ex]; exact h1))))
        · by_cases q1 : Bw c.1 a.1 d.1
          · exact .inl (seg_line1 m1 z1 q1)
          · by_cases q2 : Bw c.1 b.1 d.1
            · exact .inr (.inl (seg_line1 m1 z2 q2))
            · refine .inr (.inr (.inl (seg_line1 n1 s ?_)))
              unfold Bw at *
              omega
  · have := seg_end (f := side a b) k (by rw [cv_side]; exact s) (by rw [cv_side]; omega) hx
    exact .inr (.inr (.inr (.inl (by rw [← this]; exact h))))
  · left
    have := Int.mul_pos s (show 0 < -area a b d by omega)
    rw [Int.mul_neg] at this
    omega
  · have := seg_end (f := side a b) (seg_sw k) (by rw [cv_side]; exact t) (by rw [cv_side]; omega) hx
    exact .inr (.inr (.inr (.inr (by rw [← this]; exact h))))
  · exfalso
    have := seg_pos (f := side a b) k (by rw [cv_side]; exact s) (by rw [cv_side]; exact t)
    omega
theorem meet_of {a b c d x : P2} (h : Seg x a b) (k : Seg x c d) : meetP a b c d := by
  unfold meetP
  rcases meet_half h k with p | p | p | p | p
  · rcases meet_half k h with q | q | q | q | q
    · exact .inr (.inr (.inr (.inr ⟨p, q⟩)))
    · exact .inr (.inr (.inl q))
    · exact .inr (.inr (.inr (.inl q)))
    · exact .inl q
    · exact .inr (.inl q)
  · exact .inl p
  · exact .inr (.inl p)
  · exact .inr (.inr (.inl p))
  · exact .inr (.inr (.inr (.inl p)))
theorem meet_iff {a b c d : P2} : meetP a b c d ↔ ∃ k x, 0 < k ∧ Seg x (sc k a) (sc k b) ∧ Seg x (sc k c) (sc k d) := ⟨meet_common, fun ⟨k, x, hk, h1, h2⟩ => (meet_sc hk).mp (meet_of h1 h2)⟩
end GM

/-! GM7: how much of a segment lies in half planes. -/
namespace GM
abbrev Q2 := Int × Int
/-- what a plane says at the share n / d -/
def ev (q : Q2) (n d : Int) : Int := q.1 * (d - n) + q.2 * n
theorem ev_eq (q : Q2) (n d : Int) : ev q n d = q.1 * d + (q.2 - q.1) * n := by unfold ev; grind
structure Cs where
  l : Int
  u : Int
  h : Int
  o : Int
def stepC (dep : Int) (st : Cs) (q : Q2) : Option Cs :=
  if q.1 < dep then
    if q.2 < dep then none else if -q.1 * st.u > st.l * (q.2 - q.1) then some ⟨-q.1, q.2 - q.1, st.h, st.o⟩ else some st
  else if q.2 < dep ∧ q.1 * st.o < st.h * (q.1 - q.2) then some ⟨st.l, st.u, q.1, q.1 - q.2⟩ else some st
def clipC (dep : Int) : Cs → List Q2 → Option Cs
  | st, [] => if st.l * st.o + dep > st.h * st.u then none else some st
  | st, q :: r => match stepC dep st q with
    | none => none
    | some st' => clipC dep st' r
theorem fr_le {l u l' u' n d : Int} (hu' : 0 < u') (hu : 0 ≤ u) (hd : 0 ≤ d) (h : l * u' ≤ l' * u) (k : l' * d ≤ n * u') : l * d ≤ n * u := by
  have a := Int.mul_le_mul_of_nonneg_right h hd
  have b := Int.mul_le_mul_of_nonneg_right k hu
  have : u' * (l * d) ≤ u' * (n * u) := by grind
  exact (Int.mul_le_mul_left hu').mp this
theorem fr_lt {l u l' u' n d : Int} (hu' : 0 < u') (hu : 0 ≤ u) (hd : 0 < d) (h : l * u' < l' * u) (k : l' * d ≤ n * u') : l * d < n * u := by
  have a := Int.mul_lt_mul_of_pos_right h hd
  have b := Int.mul_le_mul_of_nonneg_right k hu
  have : u' * (l * d) < u' * (n * u) := by grind
  exact Int.lt_of_mul_lt_mul_left this (Int.le_of_lt hu')
theorem fr_lt2 {l u l' u' n d : Int} (hu' : 0 < u') (hu : 0 < u) (hd : 0 ≤ d) (h : l * u' ≤ l' * u) (k : l' * d < n * u') : l * d < n * u := by
  have a := Int.mul_le_mul_of_nonneg_right h hd
  have b := Int.mul_lt_mul_of_pos_right k hu
  have : u' * (l * d) < u' * (n * u) := by grind
  exact Int.lt_of_mul_lt_mul_left this (Int.le_of_lt hu')
/-- so far -/
structure Inv0 (ps : List Q2) (c : Cs) : Prop where
  u : 0 < c.u
  o : 0 < c.o
  l0 : 0 ≤ c.l
  lu : c.l ≤ c.u
  h0 : 0 ≤ c.h
  ho : c.h ≤ c.o
  ok : ∀ q ∈ ps, ∀ n d, 0 < d → 0 ≤ n → n ≤ d → c.l * d ≤ n * c.u → n * c.o ≤ c.h * d → 0 ≤ ev q n d
  all : ∀ n d, 0 < d → 0 ≤ n → n ≤ d → (∀ q ∈ ps, 0 ≤ ev q n d) → c.l * d ≤ n * c.u ∧ n * c.o ≤ c.h * d
  at_ : c.l = 0 ∨ ∃ q ∈ ps, ev q c.l c.u = 0 ∧ q.1 < 0
theorem inv0_start : Inv0 [] ⟨0, 1, 1, 1⟩ := ⟨by decide, by decide, by decide, by decide, by decide, by decide, (fun _ h => nomatch h), fun n d hd h0 h1 _ => by simp only []; omega, .inl rfl⟩
theorem inv0_step {ps : List Q2} {c c' : Cs} {q : Q2} (I : Inv0 ps c) (h : stepC 0 c q = some c') : Inv0 (q :: ps) c' := by
  unfold stepC at h
  by_cases h1 : q.1 < 0
  · rw [if_pos h1] at h
    by_cases h2 : q.2 < 0
    · rw [if_pos h2] at h
      cases h
    · rw [if_neg h2] at h
      have hw : 0 < q.2 - q.1 := by omega
      -- the plane alone
      have pl : ∀ n d : Int, 0 ≤ ev q n d ↔ -q.1 * d ≤ n * (q.2 - q.1) := fun n d => by
        rw [ev_eq, Int.neg_mul, Int.mul_comm (q.2 - q.1) n]
        omega
      by_cases h3 : -q.1 * c.u > c.l * (q.2 - q.1)
      · rw [if_pos h3] at h
        cases h
        refine ⟨hw, I.o, by show 0 ≤ -q.1; omega, by show -q.1 ≤ q.2 - q.1; omega, I.h0, I.ho, fun z hz n d hd n0 n1 k1 k2 => ?_, fun n d hd n0 n1 k => ?_, .inr ⟨q, List.mem_cons_self, ?_, h1⟩⟩
        · rcases List.mem_cons.mp hz with rfl | hz
          · exact (pl n d).mpr k1
          · exact I.ok z hz n d hd n0 n1 (fr_le hw (Int.le_of_lt I.u) (Int.le_of_lt hd) (Int.le_of_lt h3) k1) k2
        · exact ⟨(pl n d).mp (k q List.mem_cons_self), (I.all n d hd n0 n1 fun z hz => k z (List.mem_cons_of_mem _ hz)).2⟩
        · unfold ev
          grind
      · rw [if_neg h3] at h
        cases h
        refine ⟨I.u, I.o, I.l0, I.lu, I.h0, I.ho, fun z hz n d hd n0 n1 k1 k2 => ?_, fun n d hd n0 n1 k => I.all n d hd n0 n1 fun z hz => k z (List.mem_cons_of_mem _ hz), ?_⟩
        · rcases List.mem_cons.mp hz with rfl | hz
          · exact (pl n d).mpr (fr_le I.u (Int.le_of_lt hw) (Int.le_of_lt hd) (by omega) k1)
          · exact I.ok z hz n d hd n0 n1 k1 k2
        · rcases I.at_ with z | ⟨z, hz, e⟩
          · exact .inl z
          · exact .inr ⟨z, List.mem_cons_of_mem _ hz, e⟩
  · rw [if_neg h1] at h
    by_cases h2 : q.2 < 0 ∧ q.1 * c.o < c.h * (q.1 - q.2)
    · rw [if_pos h2] at h
      cases h
      have hw : 0 < q.1 - q.2 := by omega
      have pl : ∀ n d : Int, 0 ≤ ev q n d ↔ n * (q.1 - q.2) ≤ q.1 * d := fun n d => by
        have : (q.2 - q.1) * n = -(n * (q.1 - q.2)) := by grind
        rw [ev_eq, this]
        omega
      refine ⟨I.u, hw, I.l0, I.lu, by show 0 ≤ q.1; omega, by show q.1 ≤ q.1 - q.2; omega, fun z hz n d hd n0 n1 k1 k2 => ?_, fun n d hd n0 n1 k => ?_, ?_⟩
      · rcases List.mem_cons.mp hz with rfl | hz
        · exact (pl n d).mpr k2
        · refine I.ok z hz n d hd n0 n1 k1 ?_
          have a := Int.mul_le_mul_of_nonneg_right k2 (Int.le_of_lt I.o)
          have b := Int.mul_lt_mul_of_pos_right h2.2 hd
          have : (q.1 - q.2) * (n * c.o) ≤ (q.1 - q.2) * (c.h * d) := by
            show (q.1 - q.2) * (n * c.o) ≤ (q.1 - q.2) * (c.h * d)
            have a' : n * (q.1 - q.2) * c.o ≤ q.1 * d * c.o := a
            grind
          exact (Int.mul_le_mul_left hw).mp this
      · exact ⟨(I.all n d hd n0 n1 fun z hz => k z (List.mem_cons_of_mem _ hz)).1, (pl n d).mp (k q List.mem_cons_self)⟩
      · rcases I.at_ with z | ⟨z, hz, e⟩
        · exact .inl z
        · exact .inr ⟨z, List.mem_cons_of_mem _ hz, e⟩
    · rw [if_neg h2] at h
      cases h
      refine ⟨I.u, I.o, I.l0, I.lu, I.h0, I.ho, fun z hz n d hd n0 n1 k1 k2 => ?_, fun n d hd n0 n1 k => I.all n d hd n0 n1 fun z hz => k z (List.mem_cons_of_mem _ hz), ?_⟩
      · rcases List.mem_cons.mp hz with rfl | hz
        · by_cases h3 : z.2 < 0
          · have h4 : z.1 * c.o ≥ c.h * (z.1 - z.2) := by
              rcases Int.lt_or_le (z.1 * c.o) (c.h * (z.1 - z.2)) with w | w
              · exact absurd ⟨h3, w⟩ h2
              · exact w
            have a := Int.mul_le_mul_of_nonneg_right k2 (show 0 ≤ z.1 - z.2 by omega)
            have b := Int.mul_le_mul_of_nonneg_right h4 (Int.le_of_lt hd)
            have : c.o * (n * (z.1 - z.2)) ≤ c.o * (z.1 * d) := by grind
            have := (Int.mul_le_mul_left I.o).mp this
            have e : (z.2 - z.1) * n = -(n * (z.1 - z.2)) := by grind
            rw [ev_eq, e]
            omega
          · have a := Int.mul_nonneg (show 0 ≤ z.1 by omega) (show 0 ≤ d - n by omega)
            have b := Int.mul_nonneg (show 0 ≤ z.2 by omega) n0
            unfold ev
            omega
        · exact I.ok z hz n d hd n0 n1 k1 k2
      · rcases I.at_ with z | ⟨z, hz, e⟩
        · exact .inl z
        · exact .inr ⟨z, List.mem_cons_of_mem _ hz, e⟩
theorem clip0_some {ps qs : List Q2} : ∀ {c c' : Cs}, Inv0 ps c → clipC 0 c qs = some c' → Inv0 (qs.reverse ++ ps) c' ∧ c'.l * c'.o ≤ c'.h * c'.u := by
  induction qs generalizing ps with
  | nil =>
    intro c c' I h
    unfold clipC at h
    split at h
    · cases h
    · cases h
      exact ⟨I, by omega⟩
  | cons q r ih =>
    intro c c' I h
    unfold clipC at h
    cases e : stepC 0 c q with
    | none => rw [e] at h; cases h
    | some c1 =>
      rw [e] at h
      have := ih (inv0_step I e) h
      rw [List.reverse_cons, List.append_assoc]
      exact this
theorem step0_none {c : Cs} {q : Q2} (h : stepC 0 c q = none) {n d : Int} (hd : 0 < d) (n0 : 0 ≤ n) (n1 : n ≤ d) : ev q n d < 0 := by
  unfold stepC at h
  by_cases h1 : q.1 < 0
  · by_cases h2 : q.2 < 0
    · have a := Int.mul_nonneg (show 0 ≤ -q.1 by omega) (show 0 ≤ d - n by omega)
      have b := Int.mul_nonneg (show 0 ≤ -q.2 by omega) n0
      unfold ev
      rw [Int.neg_mul] at a b
      rcases Int.lt_or_le n d with z | z
      · have := Int.mul_pos (show 0 < -q.1 by omega) (show 0 < d - n by omega)
        rw [Int.neg_mul] at this
        omega
      · have := Int.mul_pos (show 0 < -q.2 by omega) (show 0 < n by omega)
        rw [Int.neg_mul] at this
        omega
    · rw [if_pos h1, if_neg h2] at h
      split at h <;> cases h
  · rw [if_neg h1] at h
    split at h <;> cases h
theorem clip0_none {ps qs : List Q2} : ∀ {c : Cs}, Inv0 ps c → clipC 0 c qs = none → ∀ n d : Int, 0 < d → 0 ≤ n → n ≤ d → ∃ q ∈ qs.reverse ++ ps, ev q n d < 0 := by
  induction qs generalizing ps with
  | nil =>
    intro c I h n d hd n0 n1
    unfold clipC at h
    split at h
    · rename_i hf
      by_cases k : ∀ q ∈ ps, 0 ≤ ev q n d
      · exfalso
        obtain ⟨a, b⟩ := I.all n d hd n0 n1 k
        have := I.u
        have := I.o
        have x := Int.mul_le_mul_of_nonneg_right a (Int.le_of_lt I.o)
        have y := Int.mul_le_mul_of_nonneg_right b (Int.le_of_lt I.u)
        have z : d * (c.l * c.o) ≤ d * (c.h * c.u) := by grind
        have := (Int.mul_le_mul_left hd).mp z
        omega
      · obtain ⟨q, hq⟩ := Classical.not_forall.mp k
        obtain ⟨hq1, hq2⟩ := Classical.not_imp.mp hq
        exact ⟨q, by simpa using hq1, by omega⟩
    · cases h
  | cons q r ih =>
    intro c I h n d hd n0 n1
    unfold clipC at h
    rw [List.reverse_cons, List.append_assoc]
    cases e : stepC 0 c q with
    | none => exact ⟨q, by simp, step0_none e hd n0 n1⟩
    | some c1 =>
      rw [e] at h
      exact ih (inv0_step I e) h n d hd n0 n1
def start : Cs := ⟨0, 1, 1, 1⟩
/-- what is left of a segment within half planes -/
theorem clip0 {qs : List Q2} {c : Cs} (h : clipC 0 start qs = some c) : (0 < c.u ∧ 0 < c.o ∧ 0 ≤ c.l ∧ c.l ≤ c.u ∧ 0 ≤ c.h ∧ c.h ≤ c.o) ∧ (∀ q ∈ qs, 0 ≤ ev q c.l c.u) ∧ (∀ q ∈ qs, 0 ≤ ev q c.h c.o) ∧ (c.l = 0 ∨ ∃ q ∈ qs, ev q c.l c.u = 0 ∧ q.1 < 0) := by
  obtain ⟨I, hf⟩ := clip0_some inv0_start h
  rw [List.append_nil] at I
  refine ⟨⟨I.u, I.o, I.l0, I.lu, I.h0, I.ho⟩, fun q hq => I.ok q (by simpa using hq) _ _ I.u I.l0 I.lu (Int.le_refl _) (by rw [Int.mul_comm]; rw [Int.mul_comm] at hf; rw [Int.mul_comm c.o]; rw [Int.mul_comm c.o] at hf; exact hf), fun q hq => I.ok q (by simpa using hq) _ _ I.o I.h0 I.ho hf (Int.le_refl _), ?_⟩
  rcases I.at_ with z | ⟨q, hq, e⟩
  · exact .inl z
  · exact .inr ⟨q, by simpa using hq, e⟩
theorem clip0_no {qs : List Q2} (h : clipC 0 start qs = none) {n d : Int} (hd : 0 < d) (n0 : 0 ≤ n) (n1 : n ≤ d) : ∃ q ∈ qs, ev q n d < 0 := by
  obtain ⟨q, hq, e⟩ := clip0_none inv0_start h n d hd n0 n1
  exact ⟨q, by simpa using hq, e⟩
theorem clip0_iff {qs : List Q2} : (clipC 0 start qs).isSome = true ↔ ∃ n d : Int, 0 < d ∧ 0 ≤ n ∧ n ≤ d ∧ ∀ q ∈ qs, 0 ≤ ev q n d := by
  cases e : clipC 0 start qs with
  | none =>
    refine ⟨(fun h => nomatch h), fun ⟨n, d, hd, n0, n1, h⟩ => ?_⟩
    obtain ⟨q, hq, k⟩ := clip0_no e hd n0 n1
    have := h q hq
    omega
  | some c =>
    obtain ⟨⟨a1, _, a2, a3, _⟩, b, _⟩ := clip0 e
    exact ⟨fun _ => ⟨_, _, a1, a2, a3, b⟩, fun _ => rfl⟩
/-! ### inside -/
structure Inv1 (ps : List Q2) (c : Cs) : Prop where
  u : 0 < c.u
  o : 0 < c.o
  l0 : 0 ≤ c.l
  lu : c.l < c.u
  h0 : 0 < c.h
  ho : c.h ≤ c.o
  ok : ∀ q ∈ ps, ∀ n d, 0 < d → c.l * d < n * c.u → n * c.o < c.h * d → 0 < ev q n d
  all : ∀ n d, 0 < d → 0 ≤ n → n ≤ d → (∀ q ∈ ps, 0 < ev q n d) → (c.l * d ≤ n * c.u ∧ n * c.o ≤ c.h * d) ∧ (c.l ≠ 0 → c.l * d < n * c.u)
theorem inv1_start : Inv1 [] ⟨0, 1, 1, 1⟩ := ⟨by decide, by decide, by decide, by decide, by decide, by decide, (fun _ h => nomatch h), fun n d hd h0 h1 _ => ⟨by simp only []; omega, fun h => absurd rfl h⟩⟩
theorem inv1_step {ps : List Q2} {c c' : Cs} {q : Q2} (I : Inv1 ps c) (h : stepC 1 c q = some c') : Inv1 (q :: ps) c' := by
  unfold stepC at h
  by_cases h1 : q.1 < 1
  · rw [if_pos h1] at h
    by_cases h2 : q.2 < 1
    · rw [if_pos h2] at h
      cases h
    · rw [if_neg h2] at h
      have hw : 0 < q.2 - q.1 := by omega
      have pl : ∀ n d : Int, 0 < ev q n d ↔ -q.1 * d < n * (q.2 - q.1) := fun n d => by
        rw [ev_eq, Int.neg_mul, Int.mul_comm (q.2 - q.1) n]
        omega
      by_cases h3 : -q.1 * c.u > c.l * (q.2 - q.1)
      · rw [if_pos h3] at h
        cases h
        refine ⟨hw, I.o, by show 0 ≤ -q.1; omega, by show -q.1 < q.2 - q.1; omega, I.h0, I.ho, fun z hz n d hd k1 k2 => ?_, fun n d hd n0 n1 k => ?_⟩
        · rcases List.mem_cons.mp hz with rfl | hz
          · exact (pl n d).mpr k1
          · exact I.ok z hz n d hd (fr_lt hw (Int.le_of_lt I.u) hd h3 (Int.le_of_lt k1)) k2
        · have a := (pl n d).mp (k q List.mem_cons_self)
          exact ⟨⟨Int.le_of_lt a, (I.all n d hd n0 n1 fun z hz => k z (List.mem_cons_of_mem _ hz)).1.2⟩, fun _ => a⟩
      · rw [if_neg h3] at h
        cases h
        refine ⟨I.u, I.o, I.l0, I.lu, I.h0, I.ho, fun z hz n d hd k1 k2 => ?_, fun n d hd n0 n1 k => I.all n d hd n0 n1 fun z hz => k z (List.mem_cons_of_mem _ hz)⟩
        rcases List.mem_cons.mp hz with rfl | hz
        · exact (pl n d).mpr (fr_lt2 I.u hw (Int.le_of_lt hd) (by omega) k1)
        · exact I.ok z hz n d hd k1 k2
  · rw [if_neg h1] at h
    by_cases h2 : q.2 < 1 ∧ q.1 * c.o < c.h * (q.1 - q.2)
    · rw [if_pos h2] at h
      cases h
      have hw : 0 < q.1 - q.2 := by omega
      have pl : ∀ n d : Int, 0 < ev q n d ↔ n * (q.1 - q.2) < q.1 * d := fun n d => by
        have : (q.2 - q.1) * n = -(n * (q.1 - q.2)) := by grind
        rw [ev_eq, this]
        omega
      refine ⟨I.u, hw, I.l0, I.lu, by show 0 < q.1; omega, by show q.1 ≤ q.1 - q.2; omega, fun z hz n d hd k1 k2 => ?_, fun n d hd n0 n1 k => ?_⟩
      · rcases List.mem_cons.mp hz with rfl | hz
        · exact (pl n d).mpr k2
        · refine I.ok z hz n d hd k1 ?_
          have a : n * (q.1 - q.2) * c.o < q.1 * d * c.o := Int.mul_lt_mul_of_pos_right k2 I.o
          have b := Int.mul_lt_mul_of_pos_right h2.2 hd
          have : (q.1 - q.2) * (n * c.o) < (q.1 - q.2) * (c.h * d) := by grind
          exact Int.lt_of_mul_lt_mul_left this (Int.le_of_lt hw)
      · have a := I.all n d hd n0 n1 fun z hz => k z (List.mem_cons_of_mem _ hz)
        exact ⟨⟨a.1.1, Int.le_of_lt ((pl n d).mp (k q List.mem_cons_self))⟩, a.2⟩
    · rw [if_neg h2] at h
      cases h
      refine ⟨I.u, I.o, I.l0, I.lu, I.h0, I.ho, fun z hz n d hd k1 k2 => ?_, fun n d hd n0 n1 k => I.all n d hd n0 n1 fun z hz => k z (List.mem_cons_of_mem _ hz)⟩
      rcases List.mem_cons.mp hz with rfl | hz
      · by_cases h3 : z.2 < 1
        · have h4 : z.1 * c.o ≥ c.h * (z.1 - z.2) := by
            rcases Int.lt_or_le (z.1 * c.o) (c.h * (z.1 - z.2)) with w | w
            · exact absurd ⟨h3, w⟩ h2
            · exact w
          have a := Int.mul_lt_mul_of_pos_right k2 (show 0 < z.1 - z.2 by omega)
          have b := Int.mul_le_mul_of_nonneg_right h4 (Int.le_of_lt hd)
          have : c.o * (n * (z.1 - z.2)) < c.o * (z.1 * d) := by grind
          have := Int.lt_of_mul_lt_mul_left this (Int.le_of_lt I.o)
          have e : (z.2 - z.1) * n = -(n * (z.1 - z.2)) := by grind
          rw [ev_eq, e]
          omega
        · have n0 : 0 < n := by
            have := Int.mul_nonneg I.l0 (Int.le_of_lt hd)
            have : 0 < n * c.u := by omega
            rw [Int.mul_comm] at this
            exact pos_of_mul I.u this
          have n1 : n < d := by
            have : c.h * d ≤ c.o * d := Int.mul_le_mul_of_nonneg_right I.ho (Int.le_of_lt hd)
            have : c.o * n < c.o * d := by rw [Int.mul_comm c.o n]; omega
            exact Int.lt_of_mul_lt_mul_left this (Int.le_of_lt I.o)
          have a := Int.mul_pos (show 0 < z.1 by omega) (show 0 < d - n by omega)
          have b := Int.mul_pos (show 0 < z.2 by omega) n0
          unfold ev
          omega
      · exact I.ok z hz n d hd k1 k2
theorem clip1_some {ps qs : List Q2} : ∀ {c c' : Cs}, Inv1 ps c → clipC 1 c qs = some c' → Inv1 (qs.reverse ++ ps) c' ∧ c'.l * c'.o < c'.h * c'.u := by
  induction qs generalizing ps with
  | nil =>
    intro c c' I h
    unfold clipC at h
    split at h
    · cases h
    · cases h
      exact ⟨I, by omega⟩
  | cons q r ih =>
    intro c c' I h
    unfold clipC at h
    cases e : stepC 1 c q with
    | none => rw [e] at h; cases h
    | some c1 =>
      rw [e] at h
      have := ih (inv1_step I e) h
      rw [List.reverse_cons, List.append_assoc]
      exact this
theorem step1_none {c : Cs} {q : Q2} (h : stepC 1 c q = none) {n d : Int} (n0 : 0 ≤ n) (n1 : n ≤ d) : ev q n d ≤ 0 := by
  unfold stepC at h
  by_cases h1 : q.1 < 1
  · by_cases h2 : q.2 < 1
    · have a := Int.mul_nonneg (show 0 ≤ -q.1 by omega) (show 0 ≤ d - n by omega)
      have b := Int.mul_nonneg (show 0 ≤ -q.2 by omega) n0
      unfold ev
      rw [Int.neg_mul] at a b
      omega
    · rw [if_pos h1, if_neg h2] at h
      split at h <;> cases h
  · rw [if_neg h1] at h
    split at h <;> cases h
theorem clip1_none {ps qs : List Q2} : ∀ {c : Cs}, Inv1 ps c → clipC 1 c qs = none → ∀ n d : Int, 0 < d → 0 ≤ n → n ≤ d → ∃ q ∈ qs.reverse ++ ps, ev q n d ≤ 0 := by
  induction qs generalizing ps with
  | nil =>
    intro c I h n d hd n0 n1
    unfold clipC at h
    split at h
    · rename_i hf
      by_cases k : ∀ q ∈ ps, 0 < ev q n d
      · exfalso
        obtain ⟨⟨a, b⟩, s⟩ := I.all n d hd n0 n1 k
        have hu := I.u
        have ho := I.o
        by_cases z : c.l = 0
        · rw [z, Int.zero_mul] at hf
          have := Int.mul_pos I.h0 hu
          omega
        · have x := Int.mul_lt_mul_of_pos_right (s z) ho
          have y := Int.mul_le_mul_of_nonneg_right b (Int.le_of_lt hu)
          have z : d * (c.l * c.o) < d * (c.h * c.u) := by grind
          have := Int.lt_of_mul_lt_mul_left z (Int.le_of_lt hd)
          omega
      · obtain ⟨q, hq⟩ := Classical.not_forall.mp k
        obtain ⟨hq1, hq2⟩ := Classical.not_imp.mp hq
        exact ⟨q, by simpa using hq1, by omega⟩
    · cases h
  | cons q r ih =>
    intro c I h n d hd n0 n1
    unfold clipC at h
    rw [List.reverse_cons, List.append_assoc]
    cases e : stepC 1 c q with
    | none => exact ⟨q, by simp, step1_none e n0 n1⟩
    | some c1 =>
      rw [e] at h
      exact ih (inv1_step I e) h n d hd n0 n1
theorem clip1_iff {qs : List Q2} : (clipC 1 start qs).isSome = true ↔ ∃ n d : Int, 0 < d ∧ 0 ≤ n ∧ n ≤ d ∧ ∀ q ∈ qs, 0 < ev q n d := by
  cases e : clipC 1 start qs with
  | none =>
    refine ⟨(fun h => nomatch h), fun ⟨n, d, hd, n0, n1, h⟩ => ?_⟩
    obtain ⟨q, hq, k⟩ := clip1_none inv1_start e n d hd n0 n1
    have := h q (by simpa using hq)
    omega
  | some c =>
    obtain ⟨I, hf⟩ := clip1_some inv1_start e
    rw [List.append_nil] at I
    have hu := I.u
    have ho := I.o
    refine ⟨fun _ => ⟨c.l * c.o + c.h * c.u, 2 * (c.u * c.o), ?_, ?_, ?_, fun q hq => I.ok q (by simpa using hq) _ _ ?_ ?_ ?_⟩, fun _ => rfl⟩
    · have := Int.mul_pos hu ho
      omega
    · have a := Int.mul_nonneg I.l0 (Int.le_of_lt ho)
      have b := Int.mul_nonneg (Int.le_of_lt I.h0) (Int.le_of_lt hu)
      omega
    · have a := Int.mul_le_mul_of_nonneg_right (Int.le_of_lt I.lu) (Int.le_of_lt ho)
      have b := Int.mul_le_mul_of_nonneg_right I.ho (Int.le_of_lt hu)
      rw [Int.mul_comm c.o c.u] at b
      omega
    · have := Int.mul_pos hu ho
      omega
    · have := Int.mul_lt_mul_of_pos_right hf hu
      grind
    · have := Int.mul_lt_mul_of_pos_right hf ho
      grind
/-- a single point -/
theorem clip0_pt {vs : List Int} : (clipC 0 start (vs.map fun v => (v, v))).isSome = true ↔ ∀ v ∈ vs, 0 ≤ v := by
  rw [clip0_iff]
  have e : ∀ (v n d : Int), ev (v, v) n d = v * d := fun v n d => by unfold ev; grind
  constructor
  · rintro ⟨n, d, hd, _, _, h⟩ v hv
    have := h (v, v) (List.mem_map.mpr ⟨v, hv, rfl⟩)
    rw [e, Int.mul_comm] at this
    exact nonneg_of_mul hd this
  · intro h
    refine ⟨0, 1, by decide, by decide, by decide, fun q hq => ?_⟩
    obtain ⟨v, hv, rfl⟩ := List.mem_map.mp hq
    rw [e, Int.mul_one]
    exact h v hv
theorem clip1_pt {vs : List Int} : (clipC 1 start (vs.map fun v => (v, v))).isSome = true ↔ ∀ v ∈ vs, 0 < v := by
  rw [clip1_iff]
  have e : ∀ (v n d : Int), ev (v, v) n d = v * d := fun v n d => by unfold ev; grind
  constructor
  · rintro ⟨n, d, hd, _, _, h⟩ v hv
    have := h (v, v) (List.mem_map.mpr ⟨v, hv, rfl⟩)
    rw [e, Int.mul_comm] at this
    exact pos_of_mul hd this
  · intro h
    refine ⟨0, 1, by decide, by decide, by decide, fun q hq => ?_⟩
    obtain ⟨v, hv, rfl⟩ := List.mem_map.mp hq
    rw [e, Int.mul_one]
    exact h v hv
end GM

/-! GM8: the half planes of a polygon; segments and polygons. -/
namespace GM
def minZ (b : Int) (l : List Int) : Int := l.foldl (fun a n => if n < a then n else a) b
def maxZ (b : Int) (l : List Int) : Int := l.foldl (fun a n => if n > a then n else a) b
theorem minZ_is : ∀ (l : List Int) (b : Int), (minZ b l = b ∨ minZ b l ∈ l) ∧ minZ b l ≤ b ∧ ∀ y ∈ l, minZ b l ≤ y
  | [], b => ⟨.inl rfl, Int.le_refl _, (fun _ h => nomatch h)⟩
  | n :: l, b => by
    obtain ⟨h1, h2, h3⟩ := minZ_is l (if n < b then n else b)
    have e : minZ b (n :: l) = minZ (if n < b then n else b) l := rfl
    have hb : (if n < b then n else b) ≤ b ∧ (if n < b then n else b) ≤ n := by split <;> omega
    rw [e]
    refine ⟨?_, ?_, fun y hy => ?_⟩
    · rcases h1 with h1 | h1
      · rw [h1]
        split
        · exact .inr List.mem_cons_self
        · exact .inl rfl
      · exact .inr (List.mem_cons_of_mem _ h1)
    · omega
    · rcases List.mem_cons.mp hy with rfl | hy
      · omega
      · exact h3 y hy
theorem maxZ_is : ∀ (l : List Int) (b : Int), (maxZ b l = b ∨ maxZ b l ∈ l) ∧ b ≤ maxZ b l ∧ ∀ y ∈ l, y ≤ maxZ b l
  | [], b => ⟨.inl rfl, Int.le_refl _, (fun _ h => nomatch h)⟩
  | n :: l, b => by
    obtain ⟨h1, h2, h3⟩ := maxZ_is l (if n > b then n else b)
    have e : maxZ b (n :: l) = maxZ (if n > b then n else b) l := rfl
    have hb : b ≤ (if n > b then n else b) ∧ n ≤ (if n > b then n else b) := by split <;> omega
    rw [e]
    refine ⟨?_, ?_, fun y hy => ?_⟩
    · rcases h1 with h1 | h1
      · rw [h1]
        split
        · exact .inr List.mem_cons_self
        · exact .inl rfl
      · exact .inr (List.mem_cons_of_mem _ h1)
    · omega
    · rcases List.mem_cons.mp hy with rfl | hy
      · omega
      · exact h3 y hy
def lo : List Int → Int
  | [] => 0
  | n :: l => minZ n l
def hi : List Int → Int
  | [] => 0
  | n :: l => maxZ n l
theorem lo_is {l : List Int} (h : 0 < l.length) : lo l ∈ l ∧ ∀ y ∈ l, lo l ≤ y := by
  cases l with
  | nil => simp at h
  | cons n l =>
    obtain ⟨h1, h2, h3⟩ := minZ_is l n
    show minZ n l ∈ n :: l ∧ ∀ y ∈ n :: l, minZ n l ≤ y
    refine ⟨?_, fun y hy => ?_⟩
    · rcases h1 with h1 | h1
      · rw [h1]; exact List.mem_cons_self
      · exact List.mem_cons_of_mem _ h1
    · rcases List.mem_cons.mp hy with rfl | hy
      · exact h2
      · exact h3 y hy
theorem hi_is {l : List Int} (h : 0 < l.length) : hi l ∈ l ∧ ∀ y ∈ l, y ≤ hi l := by
  cases l with
  | nil => simp at h
  | cons n l =>
    obtain ⟨h1, h2, h3⟩ := maxZ_is l n
    show maxZ n l ∈ n :: l ∧ ∀ y ∈ n :: l, y ≤ maxZ n l
    refine ⟨?_, fun y hy => ?_⟩
    · rcases h1 with h1 | h1
      · rw [h1]; exact List.mem_cons_self
      · exact List.mem_cons_of_mem _ h1
    · rcases List.mem_cons.mp hy with rfl | hy
      · exact h2
      · exact h3 y hy
def xsQ (H : List P2) : List Int := H.map fun q => q.1
def ysQ (H : List P2) : List Int := H.map fun q => q.2
def boxF (H : List P2) : List Fn := [(1, 0, lo (xsQ H)), (-1, 0, -hi (xsQ H)), (0, 1, lo (ysQ H)), (0, -1, -hi (ysQ H))]
def gcdZ (u v : Int) : Int := ((Nat.gcd u.natAbs v.natAbs : Nat) : Int)
def lowP (u v : Int) : Int × Int := (u / gcdZ u v, v / gcdZ u v)
def sideF (q : P2 × P2) : Fn := ((lowP (q.1.2 - q.2.2) (q.2.1 - q.1.1)).1, (lowP (q.1.2 - q.2.2) (q.2.1 - q.1.1)).2, (lowP (q.1.2 - q.2.2) (q.2.1 - q.1.1)).1 * q.1.1 + (lowP (q.1.2 - q.2.2) (q.2.1 - q.1.1)).2 * q.1.2)
def sidesQ (H : List P2) : List (P2 × P2) := H.zip (H.drop 1 ++ H.take 1)
def addU (ps : List Fn) (f : Fn) : List Fn := if f ∈ ps then ps else ps ++ [f]
def planesP (H : List P2) : List Fn := (if 1 < H.length then sidesQ H else []).foldl (fun ps q => addU ps (sideF q)) ((boxF H).foldl addU [])
theorem addU_mem {ps : List Fn} {f g : Fn} : g ∈ addU ps f ↔ g ∈ ps ∨ g = f := by
  unfold addU
  split
  · rename_i h
    exact ⟨.inl, fun k => k.elim id fun e => by rw [e]; exact h⟩
  · rw [List.mem_append, List.mem_singleton]
theorem addU_len (ps : List Fn) (f : Fn) : (addU ps f).length ≤ ps.length + 1 := by
  unfold addU
  split
  · omega
  · rw [List.length_append, List.length_singleton]
    omega
theorem foldU_mem {α : Type} {k : α → Fn} {g : Fn} : ∀ {l : List α} {ps : List Fn}, g ∈ l.foldl (fun ps q => addU ps (k q)) ps ↔ g ∈ ps ∨ ∃ q ∈ l, g = k q
  | [], ps => by simp
  | a :: l, ps => by
    rw [List.foldl_cons, foldU_mem, addU_mem]
    simp only [List.mem_cons]
    constructor
    · rintro ((h | h) | ⟨q, hq, e⟩)
      · exact .inl h
      · exact .inr ⟨a, .inl rfl, h⟩
      · exact .inr ⟨q, .inr hq, e⟩
    · rintro (h | ⟨q, rfl | hq, e⟩)
      · exact .inl (.inl h)
      · exact .inl (.inr e)
      · exact .inr ⟨q, hq, e⟩
theorem planes_mem {H : List P2} {f : Fn} : f ∈ planesP H ↔ f ∈ boxF H ∨ (1 < H.length ∧ ∃ q ∈ sidesQ H, f = sideF q) := by
  unfold planesP
  rw [foldU_mem, foldU_mem (k := fun f => f)]
  split
  · rename_i h
    simp [h]
  · rename_i h
    simp [h]
theorem sidesQ_get {H : List P2} {i : Nat} (hi : i < H.length) : (sidesQ H)[i]? = some (nth H i, nth H (nxt H i)) := by
  have g : ∀ {k : Nat} (hk : k < H.length), H[k]? = some (nth H k) := fun {k} hk => by
    unfold nth
    rw [List.getD_eq_getElem?_getD, List.getElem?_eq_getElem hk]
    rfl
  unfold sidesQ
  rw [List.getElem?_zip_eq_some]
  refine ⟨g hi, ?_⟩
  unfold nxt
  by_cases h : i + 1 = H.length
  · rw [if_pos h, List.getElem?_append_right (by rw [List.length_drop]; omega), List.length_drop, List.getElem?_take_of_lt (by omega)]
    rw [show i - (H.length - 1) = 0 by omega]
    exact g (by omega)
  · rw [if_neg h, List.getElem?_append_left (by rw [List.length_drop]; omega), List.getElem?_drop, show 1 + i = i + 1 by omega]
    exact g (by omega)
theorem sidesQ_len (H : List P2) : (sidesQ H).length = H.length := by
  unfold sidesQ
  rw [List.length_zip, List.length_append, List.length_drop, List.length_take]
  omega
theorem sidesQ_mem {H : List P2} {q : P2 × P2} : q ∈ sidesQ H ↔ ∃ i, i < H.length ∧ q = (nth H i, nth H (nxt H i)) := by
  constructor
  · intro h
    obtain ⟨i, hi⟩ := List.getElem?_of_mem h
    have hl : i < H.length := by
      have := (List.getElem?_eq_some_iff.mp hi).1
      rw [sidesQ_len] at this
      exact this
    refine ⟨i, hl, ?_⟩
    rw [sidesQ_get hl] at hi
    exact (Option.some.inj hi).symm
  · rintro ⟨i, hi, rfl⟩
    exact List.mem_of_getElem? (sidesQ_get hi)
theorem gcdZ_pos {u v : Int} (h : u ≠ 0 ∨ v ≠ 0) : 0 < gcdZ u v := by
  unfold gcdZ
  have : 0 < Nat.gcd u.natAbs v.natAbs := by
    rcases h with h | h
    · exact Nat.gcd_pos_of_pos_left _ (by omega)
    · exact Nat.gcd_pos_of_pos_right _ (by omega)
  omega
theorem gcdZ_mul {u v : Int} (h : u ≠ 0 ∨ v ≠ 0) : gcdZ u v * (lowP u v).1 = u ∧ gcdZ u v * (lowP u v).2 = v := by
  have d1 : gcdZ u v ∣ u := Int.natAbs_dvd_natAbs.mp (by unfold gcdZ; rw [Int.natAbs_natCast]; exact Nat.gcd_dvd_left _ _)
  have d2 : gcdZ u v ∣ v := Int.natAbs_dvd_natAbs.mp (by unfold gcdZ; rw [Int.natAbs_natCast]; exact Nat.gcd_dvd_right _ _)
  exact ⟨Int.mul_ediv_cancel' d1, Int.mul_ediv_cancel' d2⟩
/-- a side's plane is a part of its turn -/
theorem sideF_mul {a b : P2} (h : a ≠ b) : ∃ g : Int, 0 < g ∧ (∀ f : Fn, f = sideF (a, b) → g * f.1 = a.2 - b.2 ∧ g * f.2.1 = b.1 - a.1 ∧ f.2.2 = f.1 * a.1 + f.2.1 * a.2) := by
  have hn : a.2 - b.2 ≠ 0 ∨ b.1 - a.1 ≠ 0 := by
    by_cases k : a.1 = b.1
    · left
      intro z
      exact h (Prod.ext k (by omega))
    · right
      omega
  refine ⟨gcdZ (a.2 - b.2) (b.1 - a.1), gcdZ_pos hn, fun f e => ?_⟩
  obtain ⟨e1, e2⟩ := gcdZ_mul hn
  rw [e]
  exact ⟨e1, e2, rfl⟩
/-- at a scale: a plane's value -/
def pvw (f : Fn) (x y w : Int) : Int := f.1 * x + f.2.1 * y - f.2.2 * w
theorem pvw_cv (f : Fn) (x y w : Int) : pvw f x y w = cv (f.1, f.2.1, w * f.2.2) (x, y) := by
  unfold pvw cv
  simp only []
  grind
theorem sideF_area {a b : P2} (h : a ≠ b) : ∃ g : Int, 0 < g ∧ ∀ x y w, area (sc w a) (sc w b) (x, y) = w * (g * pvw (sideF (a, b)) x y w) := by
  obtain ⟨g, hg, k⟩ := sideF_mul h
  obtain ⟨e1, e2, e3⟩ := k _ rfl
  refine ⟨g, hg, fun x y w => ?_⟩
  have : g * pvw (sideF (a, b)) x y w = (a.2 - b.2) * x + (b.1 - a.1) * y - ((a.2 - b.2) * a.1 + (b.1 - a.1) * a.2) * w := by
    unfold pvw
    rw [e3, ← e1, ← e2]
    grind
  rw [this]
  unfold area sc
  simp only []
  grind
section
variable {H : List P2}
theorem nxt_ne (hH : IsHull H H) (h1 : 1 < H.length) {i : Nat} (hi : i < H.length) : nth H i ≠ nth H (nxt H i) := fun e => by
  have := nth_inj hH.nd hi (nxt_lt hi) e
  unfold nxt at this
  split at this <;> omega
theorem xs_mem {h : P2} (hh : h ∈ H) : h.1 ∈ xsQ H := List.mem_map.mpr ⟨h, hh, rfl⟩
theorem ys_mem {h : P2} (hh : h ∈ H) : h.2 ∈ ysQ H := List.mem_map.mpr ⟨h, hh, rfl⟩
theorem xs_len : (xsQ H).length = H.length := List.length_map ..
theorem ys_len : (ysQ H).length = H.length := List.length_map ..
/-- the planes have all corners, and a direction -/
theorem plane_ok (hH : IsHull H H) {f : Fn} (hf : f ∈ planesP H) : (∀ h ∈ H, 0 ≤ cv f h) ∧ (f.1 ≠ 0 ∨ f.2.1 ≠ 0) := by
  have h0 := hH.pos
  have lx := lo_is (l := xsQ H) (by rw [xs_len]; exact h0)
  have hx := hi_is (l := xsQ H) (by rw [xs_len]; exact h0)
  have ly := lo_is (l := ysQ H) (by rw [ys_len]; exact h0)
  have hy := hi_is (l := ysQ H) (by rw [ys_len]; exact h0)
  rcases planes_mem.mp hf with h | ⟨h1, q, hq, rfl⟩
  · unfold boxF at h
    simp only [List.mem_cons, List.not_mem_nil, or_false] at h
    rcases h with rfl | rfl | rfl | rfl
    · refine ⟨fun h hh => ?_, .inl (show (1 : Int) ≠ 0 by decide)⟩
      have := lx.2 _ (xs_mem hh)
      unfold cv
      simp only []
      omega
    · refine ⟨fun h hh => ?_, .inl (show (-1 : Int) ≠ 0 by decide)⟩
      have := hx.2 _ (xs_mem hh)
      unfold cv
      simp only []
      omega
    · refine ⟨fun h hh => ?_, .inr (show (1 : Int) ≠ 0 by decide)⟩
      have := ly.2 _ (ys_mem hh)
      unfold cv
      simp only []
      omega
    · refine ⟨fun h hh => ?_, .inr (show (-1 : Int) ≠ 0 by decide)⟩
      have := hy.2 _ (ys_mem hh)
      unfold cv
      simp only []
      omega
  · obtain ⟨i, hi, rfl⟩ := sidesQ_mem.mp hq
    have hne := nxt_ne hH h1 hi
    obtain ⟨g, hg, k⟩ := sideF_area hne
    refine ⟨fun h hh => ?_, ?_⟩
    · have e := k h.1 h.2 1
      rw [sc_one, sc_one, Int.one_mul, pvw_cv] at e
      have e : area (nth H i) (nth H (nxt H i)) h = _ := e
      have := edge_nonneg (hH.edge hi) hh
      have e2 : cv ((sideF (nth H i, nth H (nxt H i))).1, (sideF (nth H i, nth H (nxt H i))).2.1, 1 * (sideF (nth H i, nth H (nxt H i))).2.2) (h.1, h.2) = cv (sideF (nth H i, nth H (nxt H i))) h := by
        unfold cv
        simp only [Int.one_mul]
      rw [e2] at e
      exact nonneg_of_mul hg (by omega)
    · obtain ⟨g2, hg2, k2⟩ := sideF_mul hne
      obtain ⟨e1, e2, _⟩ := k2 _ rfl
      by_cases z : (nth H i).1 = (nth H (nxt H i)).1
      · left
        intro w
        rw [w, Int.mul_zero] at e1
        exact hne (Prod.ext z (by omega))
      · right
        intro w
        rw [w, Int.mul_zero] at e2
        omega
theorem plane_sc (hH : IsHull H H) {f : Fn} (hf : f ∈ planesP H) {w : Int} (hw : 0 < w) : ∀ h ∈ scL w H, 0 ≤ cv (f.1, f.2.1, w * f.2.2) h := fun h hh => by
  obtain ⟨q, hq, rfl⟩ := mem_sc.mp hh
  rw [cv_sc]
  exact Int.mul_nonneg (Int.le_of_lt hw) ((plane_ok hH hf).1 q hq)
theorem planes_in (hH : IsHull H H) {x y w : Int} (hw : 0 < w) : (∀ f ∈ planesP H, 0 ≤ pvw f x y w) ↔ In (scL w H) (x, y) := by
  have h0 := hH.pos
  constructor
  · intro h
    have bx : ∀ f ∈ boxF H, 0 ≤ pvw f x y w := fun f hf => h f (planes_mem.mpr (.inl hf))
    unfold boxF at bx
    simp only [List.mem_cons, List.not_mem_nil, or_false, forall_eq_or_imp, forall_eq] at bx
    unfold pvw at bx
    simp only [] at bx
    obtain ⟨b1, b2, b3, b4⟩ := bx
    have lx := lo_is (l := xsQ H) (by rw [xs_len]; exact h0)
    have hx := hi_is (l := xsQ H) (by rw [xs_len]; exact h0)
    have ly := lo_is (l := ysQ H) (by rw [ys_len]; exact h0)
    have hy := hi_is (l := ysQ H) (by rw [ys_len]; exact h0)
    refine inP_In (hull_sc hw hH) (in_of (hull_sc hw hH) ?_ ?_ ?_ ?_ fun i hi => ?_)
    · obtain ⟨q, hq, e⟩ := List.mem_map.mp lx.1
      refine ⟨sc w q, mem_sc.mpr ⟨q, hq, rfl⟩, ?_⟩
      show w * q.1 ≤ x
      rw [e, Int.mul_comm]
      omega
    · obtain ⟨q, hq, e⟩ := List.mem_map.mp hx.1
      refine ⟨sc w q, mem_sc.mpr ⟨q, hq, rfl⟩, ?_⟩
      show x ≤ w * q.1
      rw [e, Int.mul_comm]
      rw [Int.neg_mul (hi (xsQ H))] at b2
      omega
    · obtain ⟨q, hq, e⟩ := List.mem_map.mp ly.1
      refine ⟨sc w q, mem_sc.mpr ⟨q, hq, rfl⟩, ?_⟩
      show w * q.2 ≤ y
      rw [e, Int.mul_comm]
      omega
    · obtain ⟨q, hq, e⟩ := List.mem_map.mp hy.1
      refine ⟨sc w q, mem_sc.mpr ⟨q, hq, rfl⟩, ?_⟩
      show y ≤ w * q.2
      rw [e, Int.mul_comm]
      rw [Int.neg_mul (hi (ysQ H))] at b4
      omega
    · rw [scL_len] at hi
      rw [nxt_sc, nth_sc w hi, nth_sc w (nxt_lt hi)]
      by_cases h1 : 1 < H.length
      · obtain ⟨g, hg, k⟩ := sideF_area (nxt_ne hH h1 hi)
        rw [k]
        exact Int.mul_nonneg (Int.le_of_lt hw) (Int.mul_nonneg (Int.le_of_lt hg) (h _ (planes_mem.mpr (.inr ⟨h1, _, sidesQ_mem.mpr ⟨i, hi, rfl⟩, rfl⟩))))
      · have e0 : i = 0 := by omega
        have e1 : nxt H i = i := by unfold nxt; rw [if_pos (by omega), e0]
        rw [e1, area_00]
        exact Int.le_refl _
  · intro h f hf
    rw [pvw_cv]
    exact h _ (plane_sc hH hf hw)
theorem planes_str (hH : IsHull H H) {x y w : Int} (hw : 0 < w) : (∀ f ∈ planesP H, 0 < pvw f x y w) ↔ Str (scL w H) (x, y) := by
  have h0 := hH.pos
  constructor
  · intro h
    by_cases h3 : 3 ≤ H.length
    · refine ⟨by rw [scL_len]; exact h3, fun i hi => ?_⟩
      rw [scL_len] at hi
      rw [nxt_sc, nth_sc w hi, nth_sc w (nxt_lt hi)]
      obtain ⟨g, hg, k⟩ := sideF_area (nxt_ne hH (by omega) hi)
      rw [k]
      exact Int.mul_pos hw (Int.mul_pos hg (h _ (planes_mem.mpr (.inr ⟨by omega, _, sidesQ_mem.mpr ⟨i, hi, rfl⟩, rfl⟩))))
    · exfalso
      by_cases h1 : H.length = 1
      · have bx : ∀ f ∈ boxF H, 0 < pvw f x y w := fun f hf => h f (planes_mem.mpr (.inl hf))
        unfold boxF at bx
        simp only [List.mem_cons, List.not_mem_nil, or_false, forall_eq_or_imp, forall_eq] at bx
        unfold pvw at bx
        simp only [] at bx
        obtain ⟨b1, b2, _, _⟩ := bx
        have lx := lo_is (l := xsQ H) (by rw [xs_len]; exact h0)
        have hx := hi_is (l := xsQ H) (by rw [xs_len]; exact h0)
        obtain ⟨q, hq, e⟩ := List.mem_map.mp lx.1
        obtain ⟨r, hr, e2⟩ := List.mem_map.mp hx.1
        have : lo (xsQ H) = hi (xsQ H) := by
          rw [← e, ← e2, mem1 h1 hq, mem1 h1 hr]
        rw [this] at b1
        rw [Int.neg_mul (hi (xsQ H))] at b2
        omega
      · have h2 : H.length = 2 := by omega
        have s := fun i (hi : i < H.length) => h _ (planes_mem.mpr (.inr ⟨by omega, _, sidesQ_mem.mpr ⟨i, hi, rfl⟩, rfl⟩))
        have s0 := s 0 (by omega)
        have s1 := s 1 (by omega)
        obtain ⟨g0, hg0, k0⟩ := sideF_area (nxt_ne hH (by omega) (show 0 < H.length by omega))
        obtain ⟨g1, hg1, k1⟩ := sideF_area (nxt_ne hH (by omega) (show 1 < H.length by omega))
        have n0 : nxt H 0 = 1 := by unfold nxt; rw [if_neg (by omega)]
        have n1 : nxt H 1 = 0 := by unfold nxt; rw [if_pos (by omega)]
        have a0 := Int.mul_pos hw (Int.mul_pos hg0 s0)
        have a1 := Int.mul_pos hw (Int.mul_pos hg1 s1)
        rw [← k0, n0] at a0
        rw [← k1, n1, area_sw] at a1
        omega
  · intro h f hf
    rw [pvw_cv]
    exact h.pos (hull_sc hw hH) (plane_ok hH hf).2 (plane_sc hH hf hw)
end
end GM

/-! GM9: a segment and a polygon, two polygons, that have a point in common. -/
namespace GM
/-- the pair of values of a plane at both ends -/
def vp (f : Fn) (a b : P2) : Q2 := (cv f a, cv f b)
theorem planes_in1 {H : List P2} (hH : IsHull H H) {p : P2} : (∀ f ∈ planesP H, 0 ≤ cv f p) ↔ In H p := by
  have := planes_in hH (x := p.1) (y := p.2) (w := 1) (by decide)
  rw [scL_one] at this
  have e : ∀ f : Fn, pvw f p.1 p.2 1 = cv f p := fun f => by unfold pvw cv; omega
  simp only [e] at this
  exact this
theorem planes_inu {H : List P2} (hH : IsHull H H) {a b : P2} {l u : Int} (hu : 0 < u) : (∀ f ∈ planesP H, 0 ≤ ev (vp f a b) l u) ↔ In (scL u H) ((u - l) * a.1 + l * b.1, (u - l) * a.2 + l * b.2) := by
  rw [← planes_in hH hu]
  have e : ∀ f : Fn, pvw f ((u - l) * a.1 + l * b.1) ((u - l) * a.2 + l * b.2) u = ev (vp f a b) l u := fun f => by
    unfold pvw ev vp cv
    simp only []
    grind
  simp only [e]
theorem planes_stru {H : List P2} (hH : IsHull H H) {a b : P2} {l u : Int} (hu : 0 < u) : (∀ f ∈ planesP H, 0 < ev (vp f a b) l u) ↔ Str (scL u H) ((u - l) * a.1 + l * b.1, (u - l) * a.2 + l * b.2) := by
  rw [← planes_str hH hu]
  have e : ∀ f : Fn, pvw f ((u - l) * a.1 + l * b.1) ((u - l) * a.2 + l * b.2) u = ev (vp f a b) l u := fun f => by
    unfold pvw ev vp cv
    simp only []
    grind
  simp only [e]
theorem seg_at {a b : P2} {l u : Int} (h0 : 0 ≤ l) (h1 : l ≤ u) : Seg ((u - l) * a.1 + l * b.1, (u - l) * a.2 + l * b.2) (sc u a) (sc u b) := by
  have := seg_comb (a := a) (b := b) (x := ((u - l) * a.1 + l * b.1, (u - l) * a.2 + l * b.2)) (m := u - l) (n := l) (by omega) h0 rfl rfl
  rw [show u - l + l = u by omega] at this
  exact this
theorem mem_vp {H : List P2} {a b : P2} {q : Q2} : q ∈ (planesP H).map (fun f => vp f a b) ↔ ∃ f ∈ planesP H, vp f a b = q := List.mem_map
/-- on the way into a polygon a side is come to -/
theorem first_side {H : List P2} (hH : IsHull H H) {a x : P2} (hx : In H x) (ha : ¬ In H a) : ∃ (u : Int) (y : P2) (j : Nat), 0 < u ∧ Seg y (sc u a) (sc u x) ∧ In (scL u H) y ∧ j < H.length ∧ Seg y (sc u (nth H j)) (sc u (nth H (nxt H j))) := by
  have hs : (clipC 0 start ((planesP H).map fun f => vp f a x)).isSome = true := clip0_iff.mpr ⟨1, 1, by decide, by decide, by decide, fun q hq => by
    obtain ⟨f, hf, rfl⟩ := mem_vp.mp hq
    have := (planes_in1 hH).mpr hx f hf
    unfold ev vp
    omega⟩
  obtain ⟨c, hc⟩ := Option.isSome_iff_exists.mp hs
  obtain ⟨⟨u0, _, l0, lu, _⟩, hl, _, hz⟩ := clip0 hc
  have hin : In (scL c.u H) ((c.u - c.l) * a.1 + c.l * x.1, (c.u - c.l) * a.2 + c.l * x.2) := (planes_inu hH u0).mp fun f hf => hl _ (mem_vp.mpr ⟨f, hf, rfl⟩)
  rcases hz with hz | ⟨q, hq, e, _⟩
  · exfalso
    refine ha ((planes_in1 hH).mp fun f hf => ?_)
    have := hl _ (mem_vp.mpr ⟨f, hf, rfl⟩)
    rw [hz] at this
    have e : ev (vp f a x) 0 c.u = c.u * cv f a := by unfold ev vp; grind
    rw [e] at this
    exact nonneg_of_mul u0 this
  · obtain ⟨f, hf, rfl⟩ := mem_vp.mp hq
    have hn : ¬ Str (scL c.u H) ((c.u - c.l) * a.1 + c.l * x.1, (c.u - c.l) * a.2 + c.l * x.2) := fun h => by
      have := (planes_stru hH u0).mpr h f hf
      omega
    obtain ⟨j, hj, hsg⟩ := on_side (hull_sc u0 hH) hin hn
    rw [scL_len] at hj
    rw [nxt_sc, nth_sc _ hj, nth_sc _ (nxt_lt hj)] at hsg
    exact ⟨c.u, _, j, u0, seg_at l0 lu, hin, hj, hsg⟩
theorem in_along {H : List P2} {a b x : P2} (ha : In H a) (hb : In H b) (h : Seg x a b) : In H x := fun f hf => seg_nonneg h (ha f hf) (hb f hf)
/-- a segment and a polygon -/
theorem seg_meets {H : List P2} (hH : IsHull H H) {a b : P2} : (∃ k x, 0 < k ∧ Seg x (sc k a) (sc k b) ∧ In (scL k H) x) ↔ In H a ∨ In H b ∨ ∃ i, i < H.length ∧ meetP a b (nth H i) (nth H (nxt H i)) := by
  constructor
  · rintro ⟨k, x, hk, hs, hx⟩
    by_cases ha : In H a
    · exact .inl ha
    · obtain ⟨u, y, j, hu, h1, h2, h3, h4⟩ := first_side (hull_sc hk hH) hx (fun z => ha ((in_sc hk).mp z))
      rw [scL_len] at h3
      rw [nxt_sc, nth_sc _ h3, nth_sc _ (nxt_lt h3), sc_sc, sc_sc] at h4
      refine .inr (.inr ⟨j, h3, (meet_sc (Int.mul_pos hu hk)).mp (meet_of (x := y) ?_ h4)⟩)
      rw [sc_sc] at h1
      -- y lies on the part from a to x
      have e1 : Seg (sc u x) (sc (u * k) a) (sc (u * k) b) := by
        rw [← sc_sc, ← sc_sc]
        exact (seg_sc hu).mpr hs
      -- .. a part of the whole
      obtain ⟨m, n, hm, hn, hmn, e⟩ := seg_share h1
      obtain ⟨m', n', hm', hn', hmn', e'⟩ := seg_share e1
      have hz : area (sc (u * k) a) (sc (u * k) b) y = 0 := by
        have t1 := e (side (sc (u * k) a) (sc (u * k) b))
        have t2 := e' (side (sc (u * k) a) (sc (u * k) b))
        rw [cv_side, cv_side, cv_side, area_aa, Int.mul_zero, Int.zero_add] at t1
        rw [cv_side, cv_side, cv_side, area_aa, area_ab, Int.mul_zero, Int.mul_zero, Int.add_zero] at t2
        have t3 := zero_of_mul hmn' t2
        rw [t3, Int.mul_zero] at t1
        exact zero_of_mul hmn t1
      have bw : ∀ {p q w z : Int}, Bw p w z → Bw p q w → Bw p q z := fun h1 h2 => by unfold Bw at *; omega
      exact ⟨hz, bw e1.2.1 h1.2.1, bw e1.2.2 h1.2.2⟩
  · rintro (h | h | ⟨i, hi, h⟩)
    · exact ⟨1, a, by decide, by rw [sc_one, sc_one]; exact seg_left a b, by rw [scL_one]; exact h⟩
    · exact ⟨1, b, by decide, by rw [sc_one, sc_one]; exact seg_right a b, by rw [scL_one]; exact h⟩
    · obtain ⟨k, x, hk, h1, h2⟩ := meet_common h
      refine ⟨k, x, hk, h1, in_seg (mem_sc.mpr ⟨_, nth_mem hi, rfl⟩) (mem_sc.mpr ⟨_, nth_mem (nxt_lt hi), rfl⟩) h2⟩
/-- two polygons -/
theorem polys_meet {A B : List P2} (hA : IsHull A A) (hB : IsHull B B) : (∃ k x, 0 < k ∧ In (scL k A) x ∧ In (scL k B) x) ↔ (∃ a ∈ A, In B a) ∨ (∃ b ∈ B, In A b) ∨ ∃ i, i < A.length ∧ ∃ j, j < B.length ∧ meetP (nth A i) (nth A (nxt A i)) (nth B j) (nth B (nxt B j)) := by
  have msym : ∀ {a b c d : P2}, meetP a b c d → meetP c d a b := fun {a b c d} h => by
    obtain ⟨k, x, hk, h1, h2⟩ := meet_common h
    exact meet_iff.mpr ⟨k, x, hk, h2, h1⟩
  constructor
  · rintro ⟨k, x, hk, h1, h2⟩
    by_cases ha : In B (nth A 0)
    · exact .inl ⟨_, nth_mem hA.pos, ha⟩
    · obtain ⟨u, y, j, hu, s1, s2, hj, s3⟩ := first_side (hull_sc hk hB) (a := sc k (nth A 0)) h2 (fun z => ha ((in_sc hk).mp z))
      rw [scL_len] at hj
      rw [nxt_sc, nth_sc _ hj, nth_sc _ (nxt_lt hj), sc_sc, sc_sc] at s3
      have hy : In (scL (u * k) A) y := by
        refine in_along (a := sc u (sc k (nth A 0))) (b := sc u x) ?_ ?_ s1
        · rw [← scL_scL, in_sc hu, in_sc hk]
          exact in_self (nth_mem hA.pos)
        · rw [← scL_scL, in_sc hu]
          exact h1
      rcases (seg_meets hA).mp ⟨u * k, y, Int.mul_pos hu hk, s3, hy⟩ with h | h | ⟨i, hi, h⟩
      · exact .inr (.inl ⟨_, nth_mem hj, h⟩)
      · exact .inr (.inl ⟨_, nth_mem (nxt_lt hj), h⟩)
      · exact .inr (.inr ⟨i, hi, j, hj, msym h⟩)
  · rintro (⟨a, ha, h⟩ | ⟨b, hb, h⟩ | ⟨i, hi, j, hj, h⟩)
    · exact ⟨1, a, by decide, by rw [scL_one]; exact in_self ha, by rw [scL_one]; exact h⟩
    · exact ⟨1, b, by decide, by rw [scL_one]; exact h, by rw [scL_one]; exact in_self hb⟩
    · obtain ⟨k, x, hk, h1, h2⟩ := meet_common h
      exact ⟨k, x, hk, in_seg (mem_sc.mpr ⟨_, nth_mem hi, rfl⟩) (mem_sc.mpr ⟨_, nth_mem (nxt_lt hi), rfl⟩) h1, in_seg (mem_sc.mpr ⟨_, nth_mem hj, rfl⟩) (mem_sc.mpr ⟨_, nth_mem (nxt_lt hj), rfl⟩) h2⟩
end GM

/-! GM10: points as shares of corners; sums; what separates. -/
namespace GM
/-- shares of three corners -/
theorem in_comb {H : List P2} (hH : IsHull H H) {p : P2} (h : In H p) : ∃ (i j k : Int) (a b c : P2), 0 ≤ i ∧ 0 ≤ j ∧ 0 ≤ k ∧ 0 < i + j + k ∧ a ∈ H ∧ b ∈ H ∧ c ∈ H ∧ (i + j + k) * p.1 = i * a.1 + j * b.1 + k * c.1 ∧ (i + j + k) * p.2 = i * a.2 + j * b.2 + k * c.2 := by
  have h0 := hH.pos
  have hp := In_inP hH h
  unfold inP at hp
  split at hp
  · rename_i hm
    obtain ⟨m, n, hm, hn, hk, e⟩ := seg_share hp
    have e1 := e (1, 0, 0)
    have e2 := e (0, 1, 0)
    unfold cv at e1 e2
    simp only [Int.zero_mul, Int.add_zero, Int.one_mul, Int.zero_add, Int.sub_zero] at e1 e2
    refine ⟨m, n, 0, nth H 0, nth H (H.length - 1), nth H 0, hm, hn, Int.le_refl _, by omega, nth_mem h0, nth_mem (by omega), nth_mem h0, ?_, ?_⟩
    · rw [Int.add_zero, Int.zero_mul, Int.add_zero]
      exact e1
    · rw [Int.add_zero, Int.zero_mul, Int.add_zero]
      exact e2
  · obtain ⟨k, k1, k2, t1, t2, t3⟩ := hp
    have hD := fan_pos hH k1 k2
    have sum : area (nth H k) (nth H (k + 1)) p + area (nth H (k + 1)) (nth H 0) p + area (nth H 0) (nth H k) p = area (nth H 0) (nth H k) (nth H (k + 1)) := by unfold area; grind
    have e1 := tri_id (1, 0, 0) (nth H 0) (nth H k) (nth H (k + 1)) p
    have e2 := tri_id (0, 1, 0) (nth H 0) (nth H k) (nth H (k + 1)) p
    unfold cv at e1 e2
    simp only [Int.zero_mul, Int.add_zero, Int.one_mul, Int.zero_add, Int.sub_zero] at e1 e2
    exact ⟨_, _, _, nth H 0, nth H k, nth H (k + 1), t2, t3, t1, by omega, nth_mem h0, nth_mem (by omega), nth_mem k2, by rw [sum]; exact e1, by rw [sum]; exact e2⟩
/-- a hull has the points of its corners' list -/
theorem in_of_hull {pts H : List P2} (h : IsHull pts H) {p : P2} (hp : p ∈ pts) : In H p := by
  have hH : IsHull H H := h.sub_pts h.sub fun _ hx => hx
  by_cases hm : H.length < 3
  · exact in_seg (nth_mem h.pos) (nth_mem (by have := h.pos; omega)) (h.seg hm hp)
  · refine inP_In hH ?_
    unfold inP
    rw [if_neg hm]
    exact tri (by omega) fun i hi => edge_nonneg (h.edge hi) hp
/-! ### sums -/
def addP (a b : P2) : P2 := (a.1 + b.1, a.2 + b.2)
def subP (a b : P2) : P2 := (a.1 - b.1, a.2 - b.2)
/-- a point of the sum: of the first polygon, and of the second one turned over and moved by the point -/
theorem sum_in {A B S M : List P2} {w : Int} {p : P2} (hw : 0 < w) (hB : ∀ b ∈ B, True) (hS : IsHull S S) (s1 : ∀ s ∈ S, ∃ a ∈ A, ∃ b ∈ B, s = addP a b) (s2 : ∀ a ∈ A, ∀ b ∈ B, In S (addP a b)) (a0 : 0 < A.length) (b0 : 0 < B.length)
    (hM1 : ∀ m ∈ M, ∃ b ∈ B, m = subP p (sc w b)) (hM2 : ∀ b ∈ B, In M (subP p (sc w b))) : In (scL w S) p ↔ ∃ k x, 0 < k ∧ In (scL k (scL w A)) x ∧ In (scL k M) x := by
  constructor
  · intro h
    obtain ⟨i, j, k, q1, q2, q3, hi, hj, hk, hs, m1, m2, m3, e1, e2⟩ := in_comb (hull_sc hw hS) h
    obtain ⟨t1, n1, rfl⟩ := mem_sc.mp m1
    obtain ⟨t2, n2, rfl⟩ := mem_sc.mp m2
    obtain ⟨t3, n3, rfl⟩ := mem_sc.mp m3
    obtain ⟨x1, hx1, y1, hy1, rfl⟩ := s1 _ n1
    obtain ⟨x2, hx2, y2, hy2, rfl⟩ := s1 _ n2
    obtain ⟨x3, hx3, y3, hy3, rfl⟩ := s1 _ n3
    unfold sc addP at e1 e2
    simp only [] at e1 e2
    refine ⟨i + j + k, (i * (w * x1.1) + j * (w * x2.1) + k * (w * x3.1), i * (w * x1.2) + j * (w * x2.2) + k * (w * x3.2)), hs, fun f hf => ?_, fun f hf => ?_⟩
    · have f1 := hf _ (mem_sc.mpr ⟨_, mem_sc.mpr ⟨_, hx1, rfl⟩, rfl⟩)
      have f2 := hf _ (mem_sc.mpr ⟨_, mem_sc.mpr ⟨_, hx2, rfl⟩, rfl⟩)
      have f3 := hf _ (mem_sc.mpr ⟨_, mem_sc.mpr ⟨_, hx3, rfl⟩, rfl⟩)
      refine nonneg_of_mul hs ?_
      have g1 := Int.mul_nonneg hi f1
      have g2 := Int.mul_nonneg hj f2
      have g3 := Int.mul_nonneg hk f3
      have : (i + j + k) * cv f (i * (w * x1.1) + j * (w * x2.1) + k * (w * x3.1), i * (w * x1.2) + j * (w * x2.2) + k * (w * x3.2)) = i * cv f (sc (i + j + k) (sc w x1)) + j * cv f (sc (i + j + k) (sc w x2)) + k * cv f (sc (i + j + k) (sc w x3)) := by
        unfold cv sc
        simp only []
        grind
      omega
    · -- the point less the shares of the second
      have mf : ∀ b ∈ B, 0 ≤ cv f (sc (i + j + k) (subP p (sc w b))) := fun b hb => by
        rw [cv_sc2]
        refine hM2 b hb _ fun m hm => ?_
        rw [← cv_sc2]
        exact hf _ (mem_sc.mpr ⟨m, hm, rfl⟩)
      have f1 := mf _ hy1
      have f2 := mf _ hy2
      have f3 := mf _ hy3
      refine nonneg_of_mul hs ?_
      have g1 := Int.mul_nonneg hi f1
      have g2 := Int.mul_nonneg hj f2
      have g3 := Int.mul_nonneg hk f3
      have : (i + j + k) * cv f (i * (w * x1.1) + j * (w * x2.1) + k * (w * x3.1), i * (w * x1.2) + j * (w * x2.2) + k * (w * x3.2)) = i * cv f (sc (i + j + k) (subP p (sc w y1))) + j * cv f (sc (i + j + k) (subP p (sc w y2))) + k * cv f (sc (i + j + k) (subP p (sc w y3))) := by
        unfold cv sc subP
        simp only []
        have a1 : i * (w * x1.1) + j * (w * x2.1) + k * (w * x3.1) = (i + j + k) * p.1 - (i * (w * y1.1) + j * (w * y2.1) + k * (w * y3.1)) := by rw [e1]; grind
        have a2 : i * (w * x1.2) + j * (w * x2.2) + k * (w * x3.2) = (i + j + k) * p.2 - (i * (w * y1.2) + j * (w * y2.2) + k * (w * y3.2)) := by rw [e2]; grind
        rw [a1, a2]
        grind
      omega
  · rintro ⟨k, x, hk, h1, h2⟩ f hf
    obtain ⟨a, ha, la⟩ := least_f (f.1, f.2.1, 0) a0
    obtain ⟨b, hb, lb⟩ := least_f (f.1, f.2.1, 0) b0
    have c1 := s2 a ha b hb
    -- the least of the sum
    have z : 0 ≤ cv f (sc w (addP a b)) := by
      rw [cv_sc2]
      refine c1 _ fun y hy => ?_
      rw [← cv_sc2]
      exact hf _ (mem_sc.mpr ⟨y, hy, rfl⟩)
    -- x is not below the first one's, the point less x not below the second one's
    have u1 := h1 (f.1, f.2.1, k * (w * cv (f.1, f.2.1, 0) a)) fun y hy => by
      obtain ⟨y1, hy1, rfl⟩ := mem_sc.mp hy
      obtain ⟨y2, hy2, rfl⟩ := mem_sc.mp hy1
      have := la y2 hy2
      have e : cv (f.1, f.2.1, k * (w * cv (f.1, f.2.1, 0) a)) (sc k (sc w y2)) = k * (w * (cv (f.1, f.2.1, 0) y2 - cv (f.1, f.2.1, 0) a)) := by
        unfold cv sc
        simp only []
        grind
      rw [e]
      exact Int.mul_nonneg (Int.le_of_lt hk) (Int.mul_nonneg (Int.le_of_lt hw) (by omega))
    have u2 := h2 (-f.1, -f.2.1, -(k * cv (f.1, f.2.1, 0) p - k * (w * cv (f.1, f.2.1, 0) b))) fun y hy => by
      obtain ⟨y1, hy1, rfl⟩ := mem_sc.mp hy
      obtain ⟨b2, hb2, rfl⟩ := hM1 _ hy1
      have := lb b2 hb2
      have e : cv (-f.1, -f.2.1, -(k * cv (f.1, f.2.1, 0) p - k * (w * cv (f.1, f.2.1, 0) b))) (sc k (subP p (sc w b2))) = k * (w * (cv (f.1, f.2.1, 0) b2 - cv (f.1, f.2.1, 0) b)) := by
        unfold cv sc subP
        simp only []
        grind
      rw [e]
      exact Int.mul_nonneg (Int.le_of_lt hk) (Int.mul_nonneg (Int.le_of_lt hw) (by omega))
    refine nonneg_of_mul hk ?_
    have z2 := Int.mul_nonneg (Int.le_of_lt hk) z
    have : k * cv f p = cv (f.1, f.2.1, k * (w * cv (f.1, f.2.1, 0) a)) x + cv (-f.1, -f.2.1, -(k * cv (f.1, f.2.1, 0) p - k * (w * cv (f.1, f.2.1, 0) b))) x + k * cv f (sc w (addP a b)) := by
      unfold cv sc addP
      simp only []
      grind
    omega
end GM

/-! GM11: what separates a segment from a polygon. -/
namespace GM
def Sep (w : Int) (H : List P2) (a b : P2) (e : Int × Int) : Prop := ∀ c ∈ H, w * (e.1 * c.1 + e.2 * c.2) < e.1 * a.1 + e.2 * a.2 ∧ w * (e.1 * c.1 + e.2 * c.2) < e.1 * b.1 + e.2 * b.2
theorem sep_scale {w : Int} {H : List P2} {a b : P2} {e g : Int × Int} {α β : Int} (hα : 0 < α) (hβ : 0 < β) (e1 : α * e.1 = β * g.1) (e2 : α * e.2 = β * g.2) (h : Sep w H a b e) : Sep w H a b g := fun c hc => by
  obtain ⟨h1, h2⟩ := h c hc
  have t : ∀ y : P2, w * (e.1 * c.1 + e.2 * c.2) < e.1 * y.1 + e.2 * y.2 → w * (g.1 * c.1 + g.2 * c.2) < g.1 * y.1 + g.2 * y.2 := fun y hy => by
    have a1 := Int.mul_lt_mul_of_pos_left hy hα
    have a2 : α * (w * (e.1 * c.1 + e.2 * c.2)) = β * (w * (g.1 * c.1 + g.2 * c.2)) := by
      have : α * (w * (e.1 * c.1 + e.2 * c.2)) = w * ((α * e.1) * c.1 + (α * e.2) * c.2) := by grind
      rw [this, e1, e2]
      grind
    have a3 : α * (e.1 * y.1 + e.2 * y.2) = β * (g.1 * y.1 + g.2 * y.2) := by
      have : α * (e.1 * y.1 + e.2 * y.2) = (α * e.1) * y.1 + (α * e.2) * y.2 := by grind
      rw [this, e1, e2]
      grind
    rw [a2, a3] at a1
    exact Int.lt_of_mul_lt_mul_left a1 (Int.le_of_lt hβ)
  exact ⟨t a h1, t b h2⟩
theorem par_dir {l d : Int × Int} (h : l.1 * d.1 + l.2 * d.2 = 0) (hd : d.1 ≠ 0 ∨ d.2 ≠ 0) (hl : l.1 ≠ 0 ∨ l.2 ≠ 0) : ∃ α β : Int, 0 < α ∧ β ≠ 0 ∧ α * l.1 = β * -d.2 ∧ α * l.2 = β * d.1 := by
  have key : ∃ α β : Int, α ≠ 0 ∧ β ≠ 0 ∧ α * l.1 = β * -d.2 ∧ α * l.2 = β * d.1 := by
    by_cases h1 : d.1 = 0
    · have h2 := hd.resolve_left (by omega)
      rw [h1, Int.mul_zero, Int.zero_add] at h
      have l2 : l.2 = 0 := (Int.mul_eq_zero.mp h).resolve_right h2
      refine ⟨-d.2, l.1, by omega, hl.resolve_right (by omega), by rw [Int.mul_comm], by rw [l2, h1, Int.mul_zero, Int.mul_zero]⟩
    · refine ⟨d.1, l.2, h1, fun z => ?_, ?_, by rw [Int.mul_comm]⟩
      · rw [z, Int.zero_mul, Int.add_zero] at h
        have := (Int.mul_eq_zero.mp h).resolve_right h1
        omega
      · rw [Int.mul_neg, Int.mul_comm]
        omega
  obtain ⟨α, β, ha, hb, e1, e2⟩ := key
  rcases Int.lt_or_le 0 α with z | z
  · exact ⟨α, β, z, hb, e1, e2⟩
  · exact ⟨-α, -β, by omega, by omega, by rw [Int.neg_mul, Int.neg_mul, e1], by rw [Int.neg_mul, Int.neg_mul, e2]⟩
/-- the program's directions -/
def dirQ (H : List P2) (a b : P2) : List (Int × Int) := (planesP H).map (fun f => (-f.1, -f.2.1)) ++ if a = b then [] else [lowP (a.2 - b.2) (b.1 - a.1), (-(lowP (a.2 - b.2) (b.1 - a.1)).1, -(lowP (a.2 - b.2) (b.1 - a.1)).2)]
/-- two corners that are both greatest: a side is -/
theorem face_side {H : List P2} (hH : IsHull H H) {f : Fn} {c c' : P2} (hc : c ∈ H) (hc' : c' ∈ H) (hne : c ≠ c') (h0 : cv f c = 0) (h1 : cv f c' = 0) (hf : ∀ h ∈ H, 0 ≤ cv f h) : ∃ i, i < H.length ∧ cv f (nth H i) = 0 ∧ cv f (nth H (nxt H i)) = 0 := by
  obtain ⟨i, hi, ei⟩ := mem_nth hc
  obtain ⟨j, hj, ej⟩ := prev_of hi
  have hn := nxt_lt hi
  by_cases h2 : H.length < 3
  · obtain ⟨i', hi', ei'⟩ := mem_nth hc'
    have : i ≠ i' := fun z => hne (by rw [← ei, ← ei', z])
    refine ⟨i, hi, by rw [ei]; exact h0, ?_⟩
    have e : nxt H i = i' := by unfold nxt; split <;> omega
    rw [e, ei']
    exact h1
  · have s := hH.strict (by omega) hj
    rw [ej] at s
    have p1 := edge_nonneg (hH.edge hj) hc'
    rw [ej] at p1
    have p2 := edge_nonneg (hH.edge hi) hc'
    have e := tri_id f (nth H j) (nth H i) (nth H (nxt H i)) c'
    rw [h1, Int.mul_zero, ei, h0, Int.mul_zero, Int.add_zero, ← ei] at e
    have ga := hf _ (nth_mem hj)
    have gc := hf _ (nth_mem hn)
    have k1 := Int.mul_nonneg p2 ga
    have k2 := Int.mul_nonneg p1 gc
    have z1 : area (nth H i) (nth H (nxt H i)) c' * cv f (nth H j) = 0 := by omega
    have z2 : area (nth H j) (nth H i) c' * cv f (nth H (nxt H i)) = 0 := by omega
    rcases Int.mul_eq_zero.mp z2 with y2 | y2
    · rcases Int.mul_eq_zero.mp z1 with y1 | y1
      · -- on both sides' lines: the corner
        exfalso
        apply hne
        have x1 : area (nth H j) (nth H i) (nth H (nxt H i)) * (c'.1 - (nth H i).1) = area (nth H j) (nth H i) c' * ((nth H (nxt H i)).1 - (nth H i).1) + area (nth H i) (nth H (nxt H i)) c' * ((nth H j).1 - (nth H i).1) := by unfold area; grind
        have x2 : area (nth H j) (nth H i) (nth H (nxt H i)) * (c'.2 - (nth H i).2) = area (nth H j) (nth H i) c' * ((nth H (nxt H i)).2 - (nth H i).2) + area (nth H i) (nth H (nxt H i)) c' * ((nth H j).2 - (nth H i).2) := by unfold area; grind
        rw [y1, y2, Int.zero_mul, Int.zero_mul, Int.add_zero] at x1 x2
        have w1 := zero_of_mul s x1
        have w2 := zero_of_mul s x2
        rw [← ei]
        exact Prod.ext (by omega) (by omega)
      · exact ⟨j, hj, y1, by rw [ej, ei]; exact h0⟩
    · exact ⟨i, hi, by rw [ei]; exact h0, y2⟩
theorem sep_dir {w : Int} {H K : List P2} {a b : P2} (hw : 0 < w) (hH : IsHull H H) (hK : IsHull K K) (k1 : ∀ k ∈ K, ∃ c ∈ H, k = subP a (sc w c) ∨ k = subP b (sc w c)) (k2 : ∀ c ∈ H, In K (subP a (sc w c)) ∧ In K (subP b (sc w c)))
    (hno : ¬ ∃ k x, 0 < k ∧ Seg x (sc k a) (sc k b) ∧ In (scL k (scL w H)) x) : ∃ e ∈ dirQ H a b, Sep w H a b e := by
  have h0 : ¬ In K (0, 0) := fun h => hno (by
    obtain ⟨i, j, k, q1, q2, q3, hi, hj, hk, hs, m1, m2, m3, e1, e2⟩ := in_comb hK h
    simp only [Int.mul_zero] at e1 e2
    obtain ⟨c1, n1, f1⟩ := k1 _ m1
    obtain ⟨c2, n2, f2⟩ := k1 _ m2
    obtain ⟨c3, n3, f3⟩ := k1 _ m3
    -- each is an end less a corner
    have en : ∀ {q c : P2}, (q = subP a (sc w c) ∨ q = subP b (sc w c)) → ∃ t : P2, (t = a ∨ t = b) ∧ q = subP t (sc w c) := fun h => by
      rcases h with h | h
      · exact ⟨a, .inl rfl, h⟩
      · exact ⟨b, .inr rfl, h⟩
    obtain ⟨t1, g1, rfl⟩ := en f1
    obtain ⟨t2, g2, rfl⟩ := en f2
    obtain ⟨t3, g3, rfl⟩ := en f3
    unfold subP sc at e1 e2
    simp only [] at e1 e2
    refine ⟨i + j + k, (i * t1.1 + j * t2.1 + k * t3.1, i * t1.2 + j * t2.2 + k * t3.2), hs, ?_, fun f hf => ?_⟩
    · have sp : ∀ (i : Int) (t : P2), 0 ≤ i → (t = a ∨ t = b) → ∃ m n : Int, 0 ≤ m ∧ 0 ≤ n ∧ m + n = i ∧ i * t.1 = m * a.1 + n * b.1 ∧ i * t.2 = m * a.2 + n * b.2 := fun i t hi h => by
        rcases h with rfl | rfl
        · exact ⟨i, 0, hi, Int.le_refl _, by omega, by omega, by omega⟩
        · exact ⟨0, i, Int.le_refl _, hi, by omega, by omega, by omega⟩
      obtain ⟨a1, b1, x1, x2, x3, x4, x5⟩ := sp i t1 hi g1
      obtain ⟨a2, b2, y1, y2, y3, y4, y5⟩ := sp j t2 hj g2
      obtain ⟨a3, b3, z1, z2, z3, z4, z5⟩ := sp k t3 hk g3
      have := seg_comb (a := a) (b := b) (x := (i * t1.1 + j * t2.1 + k * t3.1, i * t1.2 + j * t2.2 + k * t3.2)) (m := a1 + a2 + a3) (n := b1 + b2 + b3) (by omega) (by omega) (by simp only []; rw [x4, y4, z4]; grind) (by simp only []; rw [x5, y5, z5]; grind)
      rw [show a1 + a2 + a3 + (b1 + b2 + b3) = i + j + k by omega] at this
      exact this
    · have f1 := hf _ (mem_sc.mpr ⟨_, mem_sc.mpr ⟨_, n1, rfl⟩, rfl⟩)
      have f2 := hf _ (mem_sc.mpr ⟨_, mem_sc.mpr ⟨_, n2, rfl⟩, rfl⟩)
      have f3 := hf _ (mem_sc.mpr ⟨_, mem_sc.mpr ⟨_, n3, rfl⟩, rfl⟩)
      refine nonneg_of_mul hs ?_
      have g1 := Int.mul_nonneg hi f1
      have g2 := Int.mul_nonneg hj f2
      have g3 := Int.mul_nonneg hk f3
      have : (i + j + k) * cv f (i * t1.1 + j * t2.1 + k * t3.1, i * t1.2 + j * t2.2 + k * t3.2) = i * cv f (sc (i + j + k) (sc w c1)) + j * cv f (sc (i + j + k) (sc w c2)) + k * cv f (sc (i + j + k) (sc w c3)) := by
        unfold cv sc
        simp only []
        have a1 : i * t1.1 + j * t2.1 + k * t3.1 = i * (w * c1.1) + j * (w * c2.1) + k * (w * c3.1) := by grind
        have a2 : i * t1.2 + j * t2.2 + k * t3.2 = i * (w * c1.2) + j * (w * c2.2) + k * (w * c3.2) := by grind
        rw [a1, a2]
        grind
      omega)
  -- a plane of the differences that leaves zero out
  obtain ⟨f, hf, hf0⟩ : ∃ f ∈ planesP K, cv f (0, 0) < 0 := by
    by_cases c : ∃ f ∈ planesP K, cv f (0, 0) < 0
    · exact c
    · exfalso
      refine h0 ((planes_in1 hK).mp fun f hf => ?_)
      rcases Int.lt_or_le (cv f (0, 0)) 0 with z | z
      · exact absurd ⟨f, hf, z⟩ c
      · exact z
  have pos : 0 < f.2.2 := by
    unfold cv at hf0
    simp only [Int.mul_zero, Int.add_zero] at hf0
    omega
  obtain ⟨pok, pdir⟩ := plane_ok hK hf
  have da : ∀ c ∈ H, 0 ≤ cv f (subP a (sc w c)) ∧ 0 ≤ cv f (subP b (sc w c)) := fun c hc => ⟨(k2 c hc).1 f pok, (k2 c hc).2 f pok⟩
  have dv : ∀ t c : P2, cv f (subP t (sc w c)) = (f.1 * t.1 + f.2.1 * t.2) - w * (f.1 * c.1 + f.2.1 * c.2) - f.2.2 := fun t c => by
    unfold cv subP sc
    simp only []
    grind
  have sep : Sep w H a b (f.1, f.2.1) := fun c hc => by
    obtain ⟨x1, x2⟩ := da c hc
    rw [dv] at x1 x2
    simp only []
    omega
  have dirs_of : ∀ g ∈ planesP H, (-g.1, -g.2.1) ∈ dirQ H a b := fun g hg => List.mem_append_left _ (List.mem_map.mpr ⟨g, hg, rfl⟩)
  rcases planes_mem.mp hf with h | ⟨h1, q, hq, ef⟩
  · unfold boxF at h
    simp only [List.mem_cons, List.not_mem_nil, or_false] at h
    have bx : ∀ g ∈ boxF H, g ∈ planesP H := fun g hg => planes_mem.mpr (.inl hg)
    rcases h with rfl | rfl | rfl | rfl
    · exact ⟨_, dirs_of (-1, 0, -hi (xsQ H)) (bx _ (by unfold boxF; simp)), sep⟩
    · exact ⟨_, dirs_of (1, 0, lo (xsQ H)) (bx _ (by unfold boxF; simp)), sep⟩
    · exact ⟨_, dirs_of (0, -1, -hi (ysQ H)) (bx _ (by unfold boxF; simp)), sep⟩
    · exact ⟨_, dirs_of (0, 1, lo (ysQ H)) (bx _ (by unfold boxF; simp)), sep⟩
  · obtain ⟨i, hi, rfl⟩ := sidesQ_mem.mp hq
    have hne := nxt_ne hK h1 hi
    -- the side's ends are on the plane's line
    obtain ⟨g, hg, ka⟩ := sideF_area hne
    have on : ∀ y : P2, area (nth K i) (nth K (nxt K i)) y = 0 → cv f y = 0 := fun y hy => by
      have e := ka y.1 y.2 1
      rw [sc_one, sc_one, Int.one_mul] at e
      have e' : area (nth K i) (nth K (nxt K i)) y = g * pvw (sideF (nth K i, nth K (nxt K i))) y.1 y.2 1 := e
      rw [hy] at e'
      have z := zero_of_mul hg e'.symm
      rw [ef]
      unfold pvw at z
      unfold cv
      omega
    have p0 := on _ (area_aa (nth K i) (nth K (nxt K i)))
    have q0 := on _ (area_ab (nth K i) (nth K (nxt K i)))
    obtain ⟨c, hc, hP⟩ := k1 _ (nth_mem hi)
    obtain ⟨c', hc', hQ⟩ := k1 _ (nth_mem (nxt_lt hi))
    have en : ∀ {q c : P2}, (q = subP a (sc w c) ∨ q = subP b (sc w c)) → ∃ t : P2, (t = a ∨ t = b) ∧ q = subP t (sc w c) := fun h => by
      rcases h with h | h
      · exact ⟨a, .inl rfl, h⟩
      · exact ⟨b, .inr rfl, h⟩
    obtain ⟨t, gt, eP⟩ := en hP
    obtain ⟨t', gt', eQ⟩ := en hQ
    rw [eP, dv] at p0
    rw [eQ, dv] at q0
    have lows : ∀ y : P2, (y = a ∨ y = b) → ∀ d ∈ H, 0 ≤ (f.1 * y.1 + f.2.1 * y.2) - w * (f.1 * d.1 + f.2.1 * d.2) - f.2.2 := fun y hy d hd => by
      obtain ⟨x1, x2⟩ := da d hd
      rw [dv] at x1 x2
      rcases hy with rfl | rfl
      · exact x1
      · exact x2
    have m1 : ∀ d ∈ H, f.1 * d.1 + f.2.1 * d.2 ≤ f.1 * c.1 + f.2.1 * c.2 := fun d hd => by
      have := lows t gt d hd
      exact (Int.mul_le_mul_left hw).mp (by omega)
    have m2 : ∀ d ∈ H, f.1 * d.1 + f.2.1 * d.2 ≤ f.1 * c'.1 + f.2.1 * c'.2 := fun d hd => by
      have := lows t' gt' d hd
      exact (Int.mul_le_mul_left hw).mp (by omega)
    have ec : f.1 * c.1 + f.2.1 * c.2 = f.1 * c'.1 + f.2.1 * c'.2 := by
      have := m1 c' hc'
      have := m2 c hc
      omega
    have et : f.1 * t.1 + f.2.1 * t.2 = f.1 * t'.1 + f.2.1 * t'.2 := by
      rw [← ec] at q0
      omega
    by_cases htt : t = t'
    · have hcc : c ≠ c' := fun z => hne (by rw [eP, eQ, htt, z])
      -- a side of the polygon
      obtain ⟨F, eF⟩ : ∃ F : Fn, F = (-f.1, -f.2.1, -(f.1 * c.1 + f.2.1 * c.2)) := ⟨_, rfl⟩
      have cF : ∀ y, cv F y = (f.1 * c.1 + f.2.1 * c.2) - (f.1 * y.1 + f.2.1 * y.2) := fun y => by
        rw [eF]
        unfold cv
        simp only []
        grind
      obtain ⟨j, hj, z1, z2⟩ := face_side hH (f := F) hc hc' hcc (by rw [cF]; omega) (by rw [cF]; omega) fun h hh => by
        rw [cF]
        have := m1 h hh
        omega
      rw [cF] at z1 z2
      have hl : 1 < H.length := by
        have hp := hH.pos
        rcases (by omega : H.length = 1 ∨ 1 < H.length) with z | z
        · exact absurd ((mem1 z hc).trans (mem1 z hc').symm) hcc
        · exact z
      have hne2 := nxt_ne hH hl hj
      obtain ⟨α, β, hα, hβ, x1, x2⟩ := par_dir (l := (f.1, f.2.1)) (d := ((nth H (nxt H j)).1 - (nth H j).1, (nth H (nxt H j)).2 - (nth H j).2)) (by
        simp only []
        rw [Int.mul_sub, Int.mul_sub]
        omega) (by
        simp only []
        by_cases k : (nth H j).1 = (nth H (nxt H j)).1
        · right
          intro z
          exact hne2 (Prod.ext k (by omega))
        · left
          omega) pdir
      simp only [] at x1 x2
      obtain ⟨γ, hγ, kk⟩ := sideF_mul hne2
      obtain ⟨g1, g2, g3⟩ := kk _ rfl
      have inP1 : sideF (nth H j, nth H (nxt H j)) ∈ planesP H := planes_mem.mpr (.inr ⟨hl, _, sidesQ_mem.mpr ⟨j, hj, rfl⟩, rfl⟩)
      rcases Int.lt_or_le β 0 with hb | hb
      · refine ⟨_, dirs_of _ inP1, sep_scale (α := α) (β := -β * γ) hα (Int.mul_pos (by omega) hγ) ?_ ?_ sep⟩
        · simp only []
          have : -β * γ * -(sideF (nth H j, nth H (nxt H j))).1 = β * (γ * (sideF (nth H j, nth H (nxt H j))).1) := by grind
          rw [this, g1, x1]
          congr 1
          omega
        · simp only []
          have : -β * γ * -(sideF (nth H j, nth H (nxt H j))).2.1 = β * (γ * (sideF (nth H j, nth H (nxt H j))).2.1) := by grind
          rw [this, g2, x2]
      · have hb : 0 < β := by omega
        -- all corners on the side's line: two corners
        have flat : ∀ h ∈ H, area (nth H j) (nth H (nxt H j)) h = 0 := fun h hh => by
          have nn := edge_nonneg (hH.edge hj) hh
          have e : α * ((f.1 * h.1 + f.2.1 * h.2) - (f.1 * (nth H j).1 + f.2.1 * (nth H j).2)) = β * area (nth H j) (nth H (nxt H j)) h := by
            have : α * ((f.1 * h.1 + f.2.1 * h.2) - (f.1 * (nth H j).1 + f.2.1 * (nth H j).2)) = (α * f.1) * (h.1 - (nth H j).1) + (α * f.2.1) * (h.2 - (nth H j).2) := by grind
            rw [this, x1, x2]
            unfold area
            grind
          have le := m1 h hh
          have : α * ((f.1 * h.1 + f.2.1 * h.2) - (f.1 * (nth H j).1 + f.2.1 * (nth H j).2)) ≤ 0 := by
            have := Int.mul_nonneg (Int.le_of_lt hα) (show 0 ≤ -((f.1 * h.1 + f.2.1 * h.2) - (f.1 * (nth H j).1 + f.2.1 * (nth H j).2)) by omega)
            rw [Int.mul_neg] at this
            omega
          have nb := Int.mul_nonneg (Int.le_of_lt hb) nn
          exact zero_of_mul hb (by omega)
        have l2 : H.length = 2 := by
          rcases (by omega : H.length = 2 ∨ 3 ≤ H.length) with z | z
          · exact z
          · exfalso
            have := hH.strict z hj
            rw [flat _ (nth_mem (nxt_lt (nxt_lt hj)))] at this
            omega
        have hnn : nxt H (nxt H j) = j := by
          unfold nxt
          split <;> split <;> omega
        have inP2 : sideF (nth H (nxt H j), nth H j) ∈ planesP H := planes_mem.mpr (.inr ⟨hl, _, sidesQ_mem.mpr ⟨nxt H j, nxt_lt hj, by rw [hnn]⟩, rfl⟩)
        obtain ⟨δ, hδ, kk2⟩ := sideF_mul hne2.symm
        obtain ⟨d1, d2, d3⟩ := kk2 _ rfl
        refine ⟨_, dirs_of _ inP2, sep_scale (α := α) (β := β * δ) hα (Int.mul_pos hb hδ) ?_ ?_ sep⟩
        · simp only []
          have : β * δ * -(sideF (nth H (nxt H j), nth H j)).1 = β * -(δ * (sideF (nth H (nxt H j), nth H j)).1) := by grind
          rw [this, d1, x1]
        · simp only []
          have : β * δ * -(sideF (nth H (nxt H j), nth H j)).2.1 = β * -(δ * (sideF (nth H (nxt H j), nth H j)).2.1) := by grind
          rw [this, d2, x2]
          congr 1
          omega
    · -- the segment's own direction
      have hab : a ≠ b ∧ f.1 * a.1 + f.2.1 * a.2 = f.1 * b.1 + f.2.1 * b.2 := by
        rcases gt with rfl | rfl
        · rcases gt' with rfl | rfl
          · exact absurd rfl htt
          · exact ⟨htt, et⟩
        · rcases gt' with rfl | rfl
          · exact ⟨Ne.symm htt, et.symm⟩
          · exact absurd rfl htt
      obtain ⟨hab, eab⟩ := hab
      have hn : a.2 - b.2 ≠ 0 ∨ b.1 - a.1 ≠ 0 := by
        by_cases k : a.1 = b.1
        · left
          intro z
          exact hab (Prod.ext k (by omega))
        · right
          omega
      obtain ⟨α, β, hα, hβ, x1, x2⟩ := par_dir (l := (f.1, f.2.1)) (d := (b.1 - a.1, b.2 - a.2)) (by
        simp only []
        rw [Int.mul_sub, Int.mul_sub]
        omega) (by simp only []; omega) pdir
      simp only [] at x1 x2
      have hγ := gcdZ_pos hn
      obtain ⟨g1, g2⟩ := gcdZ_mul hn
      have mem : ∀ e ∈ [lowP (a.2 - b.2) (b.1 - a.1), (-(lowP (a.2 - b.2) (b.1 - a.1)).1, -(lowP (a.2 - b.2) (b.1 - a.1)).2)], e ∈ dirQ H a b := fun e he => by
        unfold dirQ
        rw [if_neg hab]
        exact List.mem_append_right _ he
      rcases Int.lt_or_le β 0 with hb | hb
      · refine ⟨_, mem _ (List.mem_cons_of_mem _ List.mem_cons_self), sep_scale (α := α) (β := -β * gcdZ (a.2 - b.2) (b.1 - a.1)) hα (Int.mul_pos (by omega) hγ) ?_ ?_ sep⟩
        · simp only []
          have : -β * gcdZ (a.2 - b.2) (b.1 - a.1) * -(lowP (a.2 - b.2) (b.1 - a.1)).1 = β * (gcdZ (a.2 - b.2) (b.1 - a.1) * (lowP (a.2 - b.2) (b.1 - a.1)).1) := by grind
          rw [this, g1, x1]
          congr 1
          omega
        · simp only []
          have : -β * gcdZ (a.2 - b.2) (b.1 - a.1) * -(lowP (a.2 - b.2) (b.1 - a.1)).2 = β * (gcdZ (a.2 - b.2) (b.1 - a.1) * (lowP (a.2 - b.2) (b.1 - a.1)).2) := by grind
          rw [this, g2, x2]
      · refine ⟨_, mem _ List.mem_cons_self, sep_scale (α := α) (β := β * gcdZ (a.2 - b.2) (b.1 - a.1)) hα (Int.mul_pos (by omega) hγ) ?_ ?_ sep⟩
        · simp only []
          have : β * gcdZ (a.2 - b.2) (b.1 - a.1) * (lowP (a.2 - b.2) (b.1 - a.1)).1 = β * (gcdZ (a.2 - b.2) (b.1 - a.1) * (lowP (a.2 - b.2) (b.1 - a.1)).1) := by grind
          rw [this, g1, x1]
          congr 1
          omega
        · simp only []
          have : β * gcdZ (a.2 - b.2) (b.1 - a.1) * (lowP (a.2 - b.2) (b.1 - a.1)).2 = β * (gcdZ (a.2 - b.2) (b.1 - a.1) * (lowP (a.2 - b.2) (b.1 - a.1)).2) := by grind
          rw [this, g2, x2]
/-- what separates leaves nothing in common -/
theorem sep_none {w : Int} {H : List P2} {a b : P2} {e : Int × Int} (hw : 0 < w) (h0 : 0 < H.length) (h : Sep w H a b e) : ¬ ∃ k x, 0 < k ∧ Seg x (sc k a) (sc k b) ∧ In (scL k (scL w H)) x := by
  rintro ⟨k, x, hk, hs, hx⟩
  -- the greatest corner
  obtain ⟨c, hc, hl⟩ := least_f (-e.1, -e.2, 0) h0
  have big : ∀ y ∈ H, e.1 * y.1 + e.2 * y.2 ≤ e.1 * c.1 + e.2 * c.2 := fun y hy => by
    have := hl y hy
    unfold cv at this
    simp only [Int.neg_mul, Int.sub_zero] at this
    omega
  obtain ⟨s1, s2⟩ := h c hc
  have x1 := hx (-e.1, -e.2, -(k * (w * (e.1 * c.1 + e.2 * c.2)))) fun y hy => by
    obtain ⟨y1, hy1, rfl⟩ := mem_sc.mp hy
    obtain ⟨y2, hy2, rfl⟩ := mem_sc.mp hy1
    have := big y2 hy2
    have e : cv (-e.1, -e.2, -(k * (w * (e.1 * c.1 + e.2 * c.2)))) (sc k (sc w y2)) = k * (w * ((e.1 * c.1 + e.2 * c.2) - (e.1 * y2.1 + e.2 * y2.2))) := by
      unfold cv sc
      simp only []
      grind
    rw [e]
    exact Int.mul_nonneg (Int.le_of_lt hk) (Int.mul_nonneg (Int.le_of_lt hw) (by omega))
  have t : ∀ y : P2, w * (e.1 * c.1 + e.2 * c.2) < e.1 * y.1 + e.2 * y.2 → 0 < cv (e.1, e.2, k * (w * (e.1 * c.1 + e.2 * c.2))) (sc k y) := fun y hy => by
    have : cv (e.1, e.2, k * (w * (e.1 * c.1 + e.2 * c.2))) (sc k y) = k * ((e.1 * y.1 + e.2 * y.2) - w * (e.1 * c.1 + e.2 * c.2)) := by
      unfold cv sc
      simp only []
      grind
    rw [this]
    exact Int.mul_pos hk (by omega)
  have x2 := seg_pos hs (t a s1) (t b s2)
  unfold cv at x1 x2
  simp only [Int.neg_mul] at x1 x2
  omega
end GM

/-! GM12: a polygon has no three corners on one upright line: few columns, few corners. -/
namespace GM
theorem no_three {H : List P2} (hH : IsHull H H) {a m c : P2} (ha : a ∈ H) (hm : m ∈ H) (hc : c ∈ H) (e1 : a.1 = m.1) (e2 : c.1 = m.1) (l1 : a.2 < m.2) (l2 : m.2 < c.2) : False := by
  obtain ⟨i, hi, e⟩ := mem_nth hm
  have E := hH.edge hi
  rw [e] at E
  generalize nth H (nxt H i) = n at E
  clear e hi hm
  have fa : area m n a = (n.1 - m.1) * (a.2 - m.2) := by
    unfold area
    rw [e1, Int.sub_self, Int.mul_zero, Int.sub_zero]
  have fc : area m n c = (n.1 - m.1) * (c.2 - m.2) := by
    unfold area
    rw [e2, Int.sub_self, Int.mul_zero, Int.sub_zero]
  have ga := edge_nonneg E ha
  have gc := edge_nonneg E hc
  rw [fa] at ga
  rw [fc] at gc
  have z : n.1 - m.1 = 0 := by
    rcases Int.lt_trichotomy (n.1 - m.1) 0 with k | k | k
    · have := Int.mul_pos (show 0 < -(n.1 - m.1) by omega) (show 0 < c.2 - m.2 by omega)
      rw [Int.neg_mul] at this
      omega
    · exact k
    · have := Int.mul_pos k (show 0 < m.2 - a.2 by omega)
      have e : (n.1 - m.1) * (m.2 - a.2) = -((n.1 - m.1) * (a.2 - m.2)) := by grind
      omega
  rw [z, Int.zero_mul] at fa fc
  have sa := E a ha
  have sc := E c hc
  rw [fa] at sa
  rw [fc] at sc
  rcases sa with k | sa
  · omega
  rcases sc with k | sc
  · omega
  have x1 := sa.2.2
  have x2 := sc.2.2
  unfold Bw at x1 x2
  omega
theorem two_of : ∀ {l : List P2}, l.Nodup → (∀ a ∈ l, ∀ m ∈ l, ∀ c ∈ l, a.1 = m.1 → c.1 = m.1 → a.2 < m.2 → m.2 < c.2 → False) → (∀ a ∈ l, ∀ b ∈ l, a.1 = b.1) → l.length ≤ 2
  | [], _, _, _ => by simp
  | [_], _, _, _ => by simp
  | [_, _], _, _, _ => by simp
  | a :: b :: c :: r, hn, h3, hs => by
    exfalso
    have hn1 := List.nodup_cons.mp hn
    have hn2 := List.nodup_cons.mp hn1.2
    have ma : a ∈ a :: b :: c :: r := by simp
    have mb : b ∈ a :: b :: c :: r := by simp
    have mc : c ∈ a :: b :: c :: r := by simp
    have nab : a ≠ b := fun e => hn1.1 (by rw [e]; simp)
    have nac : a ≠ c := fun e => hn1.1 (by rw [e]; simp)
    have nbc : b ≠ c := fun e => hn2.1 (by rw [e]; simp)
    have sab := hs a ma b mb
    have sac := hs a ma c mc
    have yab : a.2 ≠ b.2 := fun e => nab (Prod.ext sab e)
    have yac : a.2 ≠ c.2 := fun e => nac (Prod.ext sac e)
    have ybc : b.2 ≠ c.2 := fun e => nbc (Prod.ext (by omega) e)
    have t : ∀ x y z : P2, x ∈ a :: b :: c :: r → y ∈ a :: b :: c :: r → z ∈ a :: b :: c :: r → x.2 < y.2 → y.2 < z.2 → False := fun x y z hx hy hz h1 h2 => h3 x hx y hy z hz (hs x hx y hy) (hs z hz y hy) h1 h2
    have c1 : ¬ (a.2 < b.2 ∧ b.2 < c.2) := fun k => t a b c ma mb mc k.1 k.2
    have c2 : ¬ (a.2 < c.2 ∧ c.2 < b.2) := fun k => t a c b ma mc mb k.1 k.2
    have c3 : ¬ (b.2 < a.2 ∧ a.2 < c.2) := fun k => t b a c mb ma mc k.1 k.2
    have c4 : ¬ (b.2 < c.2 ∧ c.2 < a.2) := fun k => t b c a mb mc ma k.1 k.2
    have c5 : ¬ (c.2 < a.2 ∧ a.2 < b.2) := fun k => t c a b mc ma mb k.1 k.2
    have c6 : ¬ (c.2 < b.2 ∧ b.2 < a.2) := fun k => t c b a mc mb ma k.1 k.2
    omega
theorem columns : ∀ (n : Nat) (lo : Int) {l : List P2}, l.Nodup → (∀ a ∈ l, ∀ m ∈ l, ∀ c ∈ l, a.1 = m.1 → c.1 = m.1 → a.2 < m.2 → m.2 < c.2 → False) → (∀ p ∈ l, lo ≤ p.1 ∧ p.1 < lo + (n : Int)) → l.length ≤ 2 * n
  | 0, lo, l, _, _, h => by
    cases l with
    | nil => simp
    | cons a r =>
      have := h a List.mem_cons_self
      omega
  | n + 1, lo, l, hn, h3, h => by
    have e : l.length = (l.filter fun p => decide (p.1 = lo + (n : Int))).length + (l.filter fun p => !decide (p.1 = lo + (n : Int))).length := by
      clear h hn h3
      induction l with
      | nil => rfl
      | cons a r ih =>
        by_cases k : a.1 = lo + (n : Int)
        · simp [List.filter_cons, k, ih]
          omega
        · simp [List.filter_cons, k, ih]
          omega
    have m1 : ∀ p ∈ l.filter (fun p => decide (p.1 = lo + (n : Int))), p ∈ l ∧ p.1 = lo + (n : Int) := fun p hp => by simpa using hp
    have m2 : ∀ p ∈ l.filter (fun p => !decide (p.1 = lo + (n : Int))), p ∈ l ∧ p.1 ≠ lo + (n : Int) := fun p hp => by simpa using hp
    have a1 := two_of (hn.filter _) (fun a ha m hm c hc => h3 a (m1 a ha).1 m (m1 m hm).1 c (m1 c hc).1) (fun a ha b hb => by rw [(m1 a ha).2, (m1 b hb).2])
    have a2 := columns n lo (hn.filter (fun p => !decide (p.1 = lo + (n : Int)))) (fun a ha m hm c hc => h3 a (m2 a ha).1 m (m2 m hm).1 c (m2 c hc).1) (fun p hp => by
      have := h p (m2 p hp).1
      have := (m2 p hp).2
      omega)
    omega
theorem hull_columns {H : List P2} (hH : IsHull H H) (n : Nat) (lo : Int) (h : ∀ p ∈ H, lo ≤ p.1 ∧ p.1 < lo + (n : Int)) : H.length ≤ 2 * n :=
  columns n lo hH.nd (fun a ha m hm c hc e1 e2 l1 l2 => no_three hH ha hm hc e1 e2 l1 l2) h
end GM

/-! GM13: moved polygons; a drawn point against a sum. -/
namespace GM
theorem area_add (v a b c : P2) : area (addP v a) (addP v b) (addP v c) = area a b c := by
  unfold area addP
  grind
theorem bw_add {v x y z : Int} : Bw (v + x) (v + y) (v + z) ↔ Bw x y z := by
  unfold Bw
  omega
theorem seg_add {v p a b : P2} : Seg (addP v p) (addP v a) (addP v b) ↔ Seg p a b := by
  unfold Seg
  rw [area_add]
  unfold addP
  simp only [bw_add]
theorem add_inj {v p q : P2} (h : addP v p = addP v q) : p = q := by
  unfold addP at h
  have h1 := congrArg Prod.fst h
  have h2 := congrArg Prod.snd h
  simp only [] at h1 h2
  exact Prod.ext (by omega) (by omega)
def addL (v : P2) (H : List P2) : List P2 := H.map (addP v)
theorem mem_add {v : P2} {H : List P2} {p : P2} : p ∈ addL v H ↔ ∃ q ∈ H, addP v q = p := List.mem_map
theorem addL_len (v : P2) (H : List P2) : (addL v H).length = H.length := List.length_map ..
theorem hull_add {v : P2} {H : List P2} (h : IsHull H H) : IsHull (addL v H) (addL v H) := by
  obtain ⟨_, hn, a, r, e, hl, hs⟩ := h
  refine ⟨fun _ h => h, ?_, addP v a, addL v r, by rw [e]; rfl, fun p hp => ?_, ?_⟩
  · unfold addL
    exact List.Pairwise.map _ (fun a b n z => n (add_inj z)) hn
  · obtain ⟨q, hq, rfl⟩ := mem_add.mp hp
    rcases hl q hq with z | z
    · exact .inl (by rw [z])
    · refine .inr ?_
      unfold Lt addP at *
      simp only []
      omega
  · have := steps_map (g := addP v) (R := Edge H) (S := Edge (addL v H)) (fun a b he p hp => by
      obtain ⟨q, hq, rfl⟩ := mem_add.mp hp
      rw [area_add, seg_add]
      exact he q hq) hs
    rw [List.map_append] at this
    exact this
theorem nth_add (v : P2) {H : List P2} {i : Nat} (hi : i < H.length) : nth (addL v H) i = addP v (nth H i) := by
  unfold nth addL
  rw [List.getD_eq_getElem?_getD, List.getD_eq_getElem?_getD, List.getElem?_map, List.getElem?_eq_getElem hi]
  rfl
def negP (q : P2) : P2 := (-q.1, -q.2)
/-- a point of a sum, by the first polygon and the second one turned over and moved -/
theorem sum_in2 {A B S T : List P2} {w : Int} {p : P2} (hw : 0 < w) (hS : IsHull S S) (s1 : ∀ s ∈ S, ∃ a ∈ A, ∃ b ∈ B, s = addP a b) (s2 : ∀ a ∈ A, ∀ b ∈ B, In S (addP a b)) (a0 : 0 < A.length) (b0 : 0 < B.length)
    (t1 : ∀ t ∈ T, ∃ b ∈ B, t = negP b) (t2 : ∀ b ∈ B, In T (negP b)) : In (scL w S) p ↔ ∃ k x, 0 < k ∧ In (scL k (scL w A)) x ∧ In (scL k (addL p (scL w T))) x := by
  refine sum_in hw (fun _ _ => trivial) hS s1 s2 a0 b0 (fun m hm => ?_) fun b hb f hf => ?_
  · obtain ⟨q, hq, rfl⟩ := mem_add.mp hm
    obtain ⟨t, ht, rfl⟩ := mem_sc.mp hq
    obtain ⟨b, hb, rfl⟩ := t1 t ht
    refine ⟨b, hb, ?_⟩
    unfold addP sc negP subP
    simp only [Int.mul_neg]
    exact Prod.ext (by simp only []; omega) (by simp only []; omega)
  · have := t2 b hb (w * f.1, w * f.2.1, f.2.2 - f.1 * p.1 - f.2.1 * p.2) fun t ht => by
      have := hf (addP p (sc w t)) (mem_add.mpr ⟨_, mem_sc.mpr ⟨t, ht, rfl⟩, rfl⟩)
      have e : cv (w * f.1, w * f.2.1, f.2.2 - f.1 * p.1 - f.2.1 * p.2) t = cv f (addP p (sc w t)) := by
        unfold cv addP sc
        simp only []
        grind
      rw [e]
      exact this
    have e : cv (w * f.1, w * f.2.1, f.2.2 - f.1 * p.1 - f.2.1 * p.2) (negP b) = cv f (subP p (sc w b)) := by
      unfold cv subP sc negP
      simp only []
      grind
    rw [e] at this
    exact this
end GM

/-! GM14: where a segment is inside: at an end, at a cut, or midway between two cuts. -/
namespace GM
abbrev Fr := Int × Int
def cutN (q : Q2) : Int := if q.1 - q.2 < 0 then -q.1 else q.1
def cutD2 (q : Q2) : Int := if q.1 - q.2 < 0 then -(q.1 - q.2) else q.1 - q.2
def cutsF (f : List Fr) (q : Q2) : List Fr := if 0 < cutD2 q ∧ 0 < cutN q ∧ cutN q < cutD2 q then f ++ [(cutN q, cutD2 q)] else f
def cutsQ (qs : List Q2) : List Fr := qs.foldl cutsF [(0, 1), (1, 1)]
structure Unit01 (c : Fr) : Prop where
  d : 0 < c.2
  a : 0 ≤ c.1
  b : c.1 ≤ c.2
theorem cutsF_mem {f : List Fr} {q : Q2} {c : Fr} : c ∈ cutsF f q ↔ c ∈ f ∨ (0 < cutD2 q ∧ 0 < cutN q ∧ cutN q < cutD2 q ∧ c = (cutN q, cutD2 q)) := by
  unfold cutsF
  split
  · rename_i h
    rw [List.mem_append, List.mem_singleton]
    exact ⟨fun k => k.imp id fun e => ⟨h.1, h.2.1, h.2.2, e⟩, fun k => k.imp id fun e => e.2.2.2⟩
  · rename_i h
    exact ⟨.inl, fun k => k.elim id fun e => absurd ⟨e.1, e.2.1, e.2.2.1⟩ h⟩
theorem foldC_mem : ∀ {qs : List Q2} {f : List Fr} {c : Fr}, c ∈ qs.foldl cutsF f ↔ c ∈ f ∨ ∃ q ∈ qs, 0 < cutD2 q ∧ 0 < cutN q ∧ cutN q < cutD2 q ∧ c = (cutN q, cutD2 q)
  | [], f, c => by simp
  | q :: qs, f, c => by
    rw [List.foldl_cons, foldC_mem, cutsF_mem]
    constructor
    · rintro ((h | h) | ⟨z, hz, h⟩)
      · exact .inl h
      · exact .inr ⟨q, List.mem_cons_self, h⟩
      · exact .inr ⟨z, List.mem_cons_of_mem _ hz, h⟩
    · rintro (h | ⟨z, hz, h⟩)
      · exact .inl (.inl h)
      · rcases List.mem_cons.mp hz with rfl | hz
        · exact .inl (.inr h)
        · exact .inr ⟨z, hz, h⟩
theorem cutsF_len (f : List Fr) (q : Q2) : (cutsF f q).length ≤ f.length + 1 := by
  unfold cutsF
  split
  · rw [List.length_append, List.length_singleton]
    omega
  · omega
theorem cuts_unit {qs : List Q2} {c : Fr} (h : c ∈ cutsQ qs) : Unit01 c := by
  unfold cutsQ at h
  rw [foldC_mem] at h
  rcases h with h | ⟨q, _, h1, h2, h3, rfl⟩
  · simp only [List.mem_cons, List.not_mem_nil, or_false] at h
    rcases h with rfl | rfl
    · exact ⟨by decide, by decide, by decide⟩
    · exact ⟨by decide, by decide, by decide⟩
  · exact ⟨h1, Int.le_of_lt h2, Int.le_of_lt h3⟩
theorem max_below {n d : Int} (hd : 0 < d) : ∀ {l : List Fr}, (∀ c ∈ l, 0 < c.2) → (∃ c ∈ l, c.1 * d ≤ n * c.2) → ∃ c ∈ l, c.1 * d ≤ n * c.2 ∧ ∀ c' ∈ l, c'.1 * d ≤ n * c'.2 → c'.1 * c.2 ≤ c.1 * c'.2
  | [], _, h => by
    obtain ⟨_, h, _⟩ := h
    cases h
  | a :: l, hp, h => by
    by_cases k : ∃ c ∈ l, c.1 * d ≤ n * c.2
    · obtain ⟨c, hc, h1, h2⟩ := max_below hd (fun c hc => hp c (List.mem_cons_of_mem _ hc)) k
      have pc := hp c (List.mem_cons_of_mem _ hc)
      have pa := hp a List.mem_cons_self
      by_cases ka : a.1 * d ≤ n * a.2 ∧ c.1 * a.2 < a.1 * c.2
      · refine ⟨a, List.mem_cons_self, ka.1, fun c' hc' h' => ?_⟩
        rcases List.mem_cons.mp hc' with rfl | hc'
        · exact Int.le_refl _
        · have h3 := h2 c' hc' h'
          have pc' := hp c' (List.mem_cons_of_mem _ hc')
          -- c' ≤ c < a
          exact fr_le (l := c'.1) (u := c'.2) (l' := c.1) (u' := c.2) (n := a.1) (d := a.2) pc (Int.le_of_lt pc') (Int.le_of_lt pa) h3 (Int.le_of_lt ka.2)
      · refine ⟨c, List.mem_cons_of_mem _ hc, h1, fun c' hc' h' => ?_⟩
        rcases List.mem_cons.mp hc' with rfl | hc'
        · rcases Int.lt_or_le (c.1 * c'.2) (c'.1 * c.2) with z | z
          · exact absurd ⟨h', z⟩ ka
          · exact z
        · exact h2 c' hc' h'
    · obtain ⟨c, hc, h1⟩ := h
      rcases List.mem_cons.mp hc with rfl | hc
      · refine ⟨c, List.mem_cons_self, h1, fun c' hc' h' => ?_⟩
        rcases List.mem_cons.mp hc' with rfl | hc'
        · exact Int.le_refl _
        · exact absurd ⟨c', hc', h'⟩ k
      · exact absurd ⟨c, hc, h1⟩ k
theorem min_above {n d : Int} (hd : 0 < d) {l : List Fr} (hp : ∀ c ∈ l, 0 < c.2) (h : ∃ c ∈ l, n * c.2 ≤ c.1 * d) : ∃ c ∈ l, n * c.2 ≤ c.1 * d ∧ ∀ c' ∈ l, n * c'.2 ≤ c'.1 * d → c.1 * c'.2 ≤ c'.1 * c.2 := by
  obtain ⟨c, hc, h1, h2⟩ := max_below (n := -n) hd (l := l.map fun c => (-c.1, c.2)) (fun c hc => by
    obtain ⟨z, hz, rfl⟩ := List.mem_map.mp hc
    exact hp z hz) (by
    obtain ⟨c, hc, h⟩ := h
    refine ⟨_, List.mem_map.mpr ⟨c, hc, rfl⟩, ?_⟩
    simp only [Int.neg_mul]
    omega)
  obtain ⟨z, hz, rfl⟩ := List.mem_map.mp hc
  refine ⟨z, hz, ?_, fun c' hc' h' => ?_⟩
  · simp only [Int.neg_mul] at h1
    omega
  · have := h2 _ (List.mem_map.mpr ⟨c', hc', rfl⟩) (by simp only [Int.neg_mul]; omega)
    simp only [Int.neg_mul] at this
    omega
theorem ev_same {q : Q2} {n d m k : Int} (hk : 0 < k) (hd : 0 < d) (e : m * d = n * k) (h : 0 < ev q n d) : 0 < ev q m k := by
  have : d * ev q m k = k * ev q n d := by
    rw [ev_eq, ev_eq, Int.mul_add, Int.mul_add]
    have e1 : d * (q.1 * k) = k * (q.1 * d) := by grind
    have e2 : d * ((q.2 - q.1) * m) = (q.2 - q.1) * (m * d) := by grind
    have e3 : k * ((q.2 - q.1) * n) = (q.2 - q.1) * (n * k) := by grind
    rw [e1, e2, e3, e]
  exact pos_of_mul hd (by rw [this]; exact Int.mul_pos hk h)
theorem cut_pos {q : Q2} (h : 0 < q.1 - q.2) : cutN q = q.1 ∧ cutD2 q = q.1 - q.2 := by
  unfold cutN cutD2
  rw [if_neg (by omega), if_neg (by omega)]
  exact ⟨rfl, rfl⟩
theorem cut_neg {q : Q2} (h : q.1 - q.2 < 0) : cutN q = -q.1 ∧ cutD2 q = -(q.1 - q.2) := by
  unfold cutN cutD2
  rw [if_pos h, if_pos h]
  exact ⟨rfl, rfl⟩
def midN (a b : Fr) : Int := a.1 * b.2 + b.1 * a.2
def midD (a b : Fr) : Int := 2 * a.2 * b.2
theorem mid_unit {a b : Fr} (ha : Unit01 a) (hb : Unit01 b) : 0 < midD a b ∧ 0 ≤ midN a b ∧ midN a b ≤ midD a b := by
  have h1 := Int.mul_pos ha.d hb.d
  have h2 := Int.mul_nonneg ha.a (Int.le_of_lt hb.d)
  have h3 := Int.mul_nonneg hb.a (Int.le_of_lt ha.d)
  have h4 := Int.mul_le_mul_of_nonneg_right ha.b (Int.le_of_lt hb.d)
  have h5 := Int.mul_le_mul_of_nonneg_right hb.b (Int.le_of_lt ha.d)
  have e : midD a b = 2 * (a.2 * b.2) := by unfold midD; rw [Int.mul_assoc]
  have e2 : b.2 * a.2 = a.2 * b.2 := Int.mul_comm _ _
  unfold midN
  rw [e]
  omega
theorem mid_lt {a b : Fr} (ha : 0 < a.2) (hb : 0 < b.2) (h : a.1 * b.2 < b.1 * a.2) : a.1 * midD a b < midN a b * a.2 ∧ midN a b * b.2 < b.1 * midD a b := by
  unfold midN midD
  have h1 := Int.mul_pos ha (show 0 < b.1 * a.2 - a.1 * b.2 by omega)
  have h2 := Int.mul_pos hb (show 0 < b.1 * a.2 - a.1 * b.2 by omega)
  constructor
  · have : (a.1 * b.2 + b.1 * a.2) * a.2 - a.1 * (2 * a.2 * b.2) = a.2 * (b.1 * a.2 - a.1 * b.2) := by grind
    omega
  · have : b.1 * (2 * a.2 * b.2) - (a.1 * b.2 + b.1 * a.2) * b.2 = b.2 * (b.1 * a.2 - a.1 * b.2) := by grind
    omega
theorem inside_cut {qs : List Q2} {n d : Int} (hd : 0 < d) (n0 : 0 ≤ n) (n1 : n ≤ d) (hp : ∀ q ∈ qs, 0 < ev q n d) :
    ∃ c ∈ cutsQ qs, (∀ q ∈ qs, 0 < ev q c.1 c.2) ∨ ∃ c' ∈ cutsQ qs, ∀ q ∈ qs, 0 < ev q (midN c c') (midD c c') := by
  have m0 : ((0, 1) : Fr) ∈ cutsQ qs := by unfold cutsQ; rw [foldC_mem]; exact .inl (by simp)
  have m1 : ((1, 1) : Fr) ∈ cutsQ qs := by unfold cutsQ; rw [foldC_mem]; exact .inl (by simp)
  have un : ∀ c ∈ cutsQ qs, 0 < c.2 := fun c hc => (cuts_unit hc).d
  obtain ⟨a, ha, a1, a2⟩ := max_below (n := n) hd un ⟨_, m0, by simp only [Int.zero_mul, Int.mul_one]; exact n0⟩
  obtain ⟨b, hb, b1, b2⟩ := min_above (n := n) hd un ⟨_, m1, by simp only [Int.one_mul, Int.mul_one]; exact n1⟩
  have ua := cuts_unit ha
  have ub := cuts_unit hb
  by_cases ka : a.1 * d = n * a.2
  · exact ⟨a, ha, .inl fun q hq => ev_same ua.d hd ka (hp q hq)⟩
  by_cases kb : n * b.2 = b.1 * d
  · exact ⟨b, hb, .inl fun q hq => ev_same ub.d hd kb.symm (hp q hq)⟩
  have la : a.1 * d < n * a.2 := by omega
  have lb : n * b.2 < b.1 * d := by omega
  have lab : a.1 * b.2 < b.1 * a.2 := fr_lt (l := a.1) (u := a.2) (l' := n) (u' := d) (n := b.1) (d := b.2) hd (Int.le_of_lt ua.d) ub.d la b1
  obtain ⟨x1, x2⟩ := mid_lt ua.d ub.d lab
  obtain ⟨y1, y2, y3⟩ := mid_unit ua ub
  refine ⟨a, ha, .inr ⟨b, hb, fun q hq => ?_⟩⟩
  rcases Int.lt_or_le 0 (ev q (midN a b) (midD a b)) with z | z
  · exact z
  exfalso
  have hq0 := hp q hq
  rw [ev_eq] at hq0 z
  generalize midN a b = M at *
  generalize midD a b = E at *
  rcases Int.lt_trichotomy (q.1 - q.2) 0 with k | k | k
  · obtain ⟨e1, e2⟩ := cut_neg k
    generalize hN : cutN q = N at *
    generalize hD : cutD2 q = D at *
    have f1 : ∀ x y : Int, q.1 * y + (q.2 - q.1) * x = D * x - N * y := fun x y => by rw [e1, e2]; grind
    rw [f1] at hq0 z
    have D0 : 0 < D := by omega
    -- M ≤ z < t
    have c1 : M * D ≤ N * E := by
      have := Int.mul_comm D M
      omega
    have c2 : N * d < n * D := by
      have := Int.mul_comm D n
      omega
    have c3 : a.1 * D < N * a.2 := fr_lt (l := a.1) (u := a.2) (l' := M) (u' := E) (n := N) (d := D) y1 (Int.le_of_lt ua.d) D0 x1 c1
    have N0 : 0 < N := by
      have := Int.mul_nonneg ua.a (Int.le_of_lt D0)
      have h : 0 < a.2 * N := by rw [Int.mul_comm]; omega
      exact pos_of_mul ua.d h
    have ND : N < D := by
      have h : 0 < d * (D - N) := by
        have := Int.mul_le_mul_of_nonneg_right n1 (Int.le_of_lt D0)
        rw [Int.mul_sub, Int.mul_comm d N]
        omega
      have := pos_of_mul hd h
      omega
    have mem : (N, D) ∈ cutsQ qs := by
      unfold cutsQ
      rw [foldC_mem]
      exact .inr ⟨q, hq, by rw [hD]; exact D0, by rw [hN]; exact N0, by rw [hN, hD]; exact ND, by rw [hN, hD]⟩
    have := a2 _ mem (Int.le_of_lt c2)
    simp only [] at this
    omega
  · have e : q.2 - q.1 = 0 := by omega
    rw [e, Int.zero_mul, Int.add_zero] at hq0 z
    have : 0 < q.1 := pos_of_mul hd (by rw [Int.mul_comm]; exact hq0)
    have := Int.mul_pos this y1
    omega
  · obtain ⟨e1, e2⟩ := cut_pos k
    generalize hN : cutN q = N at *
    generalize hD : cutD2 q = D at *
    have f1 : ∀ x y : Int, q.1 * y + (q.2 - q.1) * x = N * y - D * x := fun x y => by rw [e1, e2]; grind
    rw [f1] at hq0 z
    have D0 : 0 < D := by omega
    -- t < z ≤ M
    have c1 : N * E ≤ M * D := by
      have := Int.mul_comm D M
      omega
    have c2 : n * D < N * d := by
      have := Int.mul_comm D n
      omega
    have c3 : N * b.2 < b.1 * D := fr_lt2 (l := N) (u := D) (l' := M) (u' := E) (n := b.1) (d := b.2) y1 D0 (Int.le_of_lt ub.d) c1 x2
    have N0 : 0 < N := by
      have := Int.mul_nonneg n0 (Int.le_of_lt D0)
      exact pos_of_mul hd (by rw [Int.mul_comm]; omega)
    have ND : N < D := by
      have h : 0 < b.2 * (D - N) := by
        have := Int.mul_le_mul_of_nonneg_right ub.b (Int.le_of_lt D0)
        rw [Int.mul_sub, Int.mul_comm b.2 N]
        omega
      have := pos_of_mul ub.d h
      omega
    have mem : (N, D) ∈ cutsQ qs := by
      unfold cutsQ
      rw [foldC_mem]
      exact .inr ⟨q, hq, by rw [hD]; exact D0, by rw [hN]; exact N0, by rw [hN, hD]; exact ND, by rw [hN, hD]⟩
    have := b2 _ mem (Int.le_of_lt c2)
    simp only [] at this
    omega
theorem inside_iff {qs : List Q2} : (∃ n d : Int, 0 < d ∧ 0 ≤ n ∧ n ≤ d ∧ ∀ q ∈ qs, 0 < ev q n d) ↔ ∃ c ∈ cutsQ qs, (∀ q ∈ qs, 0 < ev q c.1 c.2) ∨ ∃ c' ∈ cutsQ qs, ∀ q ∈ qs, 0 < ev q (midN c c') (midD c c') := by
  constructor
  · rintro ⟨n, d, hd, n0, n1, hp⟩
    exact inside_cut hd n0 n1 hp
  · rintro ⟨c, hc, h | ⟨c', hc', h⟩⟩
    · have u := cuts_unit hc
      exact ⟨c.1, c.2, u.d, u.a, u.b, h⟩
    · obtain ⟨h1, h2, h3⟩ := mid_unit (cuts_unit hc) (cuts_unit hc')
      exact ⟨_, _, h1, h2, h3, h⟩
end GM

/-! GM15: upright rectangles; sums by what is turned over; points outside of a side. -/
namespace GM
def boxP (l b r t : Int) : List P2 := [(l, b), (r, b), (r, t), (l, t)]
theorem box_mem {l b r t : Int} {p : P2} : p ∈ boxP l b r t ↔ p = (l, b) ∨ p = (r, b) ∨ p = (r, t) ∨ p = (l, t) := by
  unfold boxP
  simp only [List.mem_cons, List.not_mem_nil, or_false]
theorem box_hull {l b r t : Int} (h1 : l < r) (h2 : b < t) : IsHull (boxP l b r t) (boxP l b r t) := by
  have hp := Int.mul_pos (show 0 < r - l by omega) (show 0 < t - b by omega)
  have self : ∀ {a c : P2}, Seg a a c ∧ Seg c a c := fun {a c} => ⟨seg_left a c, seg_right a c⟩
  refine ⟨fun _ h => h, ?_, (l, b), [(r, b), (r, t), (l, t)], rfl, fun p hp => ?_, ?_, ?_, ?_, ?_, trivial⟩
  · unfold boxP
    have e1 : l ≠ r := by omega
    have e2 : b ≠ t := by omega
    have e3 : r ≠ l := by omega
    have e4 : t ≠ b := by omega
    simp [e1, e2, e3, e4]
  · rcases box_mem.mp hp with rfl | rfl | rfl | rfl
    · exact .inl rfl
    · exact .inr (.inl h1)
    · exact .inr (.inl h1)
    · exact .inr (.inr ⟨rfl, h2⟩)
  · intro p hp'
    rcases box_mem.mp hp' with rfl | rfl | rfl | rfl
    · exact .inr (seg_left _ _)
    · exact .inr (seg_right _ _)
    · left
      have : area (l, b) (r, b) (r, t) = (r - l) * (t - b) := by unfold area; simp only []; grind
      rw [this]; exact hp
    · left
      have : area (l, b) (r, b) (l, t) = (r - l) * (t - b) := by unfold area; simp only []; grind
      rw [this]; exact hp
  · intro p hp'
    rcases box_mem.mp hp' with rfl | rfl | rfl | rfl
    · left
      have : area (r, b) (r, t) (l, b) = (r - l) * (t - b) := by unfold area; simp only []; grind
      rw [this]; exact hp
    · exact .inr (seg_left _ _)
    · exact .inr (seg_right _ _)
    · left
      have : area (r, b) (r, t) (l, t) = (r - l) * (t - b) := by unfold area; simp only []; grind
      rw [this]; exact hp
  · intro p hp'
    rcases box_mem.mp hp' with rfl | rfl | rfl | rfl
    · left
      have : area (r, t) (l, t) (l, b) = (r - l) * (t - b) := by unfold area; simp only []; grind
      rw [this]; exact hp
    · left
      have : area (r, t) (l, t) (r, b) = (r - l) * (t - b) := by unfold area; simp only []; grind
      rw [this]; exact hp
    · exact .inr (seg_left _ _)
    · exact .inr (seg_right _ _)
  · intro p hp'
    rcases box_mem.mp hp' with rfl | rfl | rfl | rfl
    · exact .inr (seg_right _ _)
    · left
      have : area (l, t) (l, b) (r, b) = (r - l) * (t - b) := by unfold area; simp only []; grind
      rw [this]; exact hp
    · left
      have : area (l, t) (l, b) (r, t) = (r - l) * (t - b) := by unfold area; simp only []; grind
      rw [this]; exact hp
    · exact .inr (seg_left _ _)
/-- a point of the sum of a piece and another one turned over: the other one, moved to the point, meets the piece -/
theorem sum_meets {A B S T : List P2} {w : Int} {p : P2} (hw : 0 < w) (hS : IsHull S S) (s1 : ∀ s ∈ S, ∃ a ∈ A, ∃ t ∈ T, s = addP a t) (s2 : ∀ a ∈ A, ∀ t ∈ T, In S (addP a t)) (a0 : 0 < A.length) (b0 : 0 < B.length)
    (t1 : ∀ t ∈ T, ∃ b ∈ B, t = negP b) (t2 : ∀ b ∈ B, In T (negP b)) : In (scL w S) p ↔ ∃ k x, 0 < k ∧ In (scL k (scL w A)) x ∧ In (scL k (addL p (scL w B))) x := by
  refine sum_in (B := B.map negP) hw (fun _ _ => trivial) hS (fun s hs => ?_) (fun a ha n hn => ?_) a0 (by rw [List.length_map]; exact b0) (fun m hm => ?_) fun n hn => ?_
  · obtain ⟨a, ha, t, ht, rfl⟩ := s1 s hs
    obtain ⟨b, hb, rfl⟩ := t1 t ht
    exact ⟨a, ha, _, List.mem_map.mpr ⟨b, hb, rfl⟩, rfl⟩
  · obtain ⟨b, hb, rfl⟩ := List.mem_map.mp hn
    intro f hf
    have := t2 b hb (f.1, f.2.1, f.2.2 - f.1 * a.1 - f.2.1 * a.2) fun t ht => by
      have := s2 a ha t ht f hf
      have e : cv (f.1, f.2.1, f.2.2 - f.1 * a.1 - f.2.1 * a.2) t = cv f (addP a t) := by
        unfold cv addP
        simp only []
        grind
      rw [e]
      exact this
    have e : cv (f.1, f.2.1, f.2.2 - f.1 * a.1 - f.2.1 * a.2) (negP b) = cv f (addP a (negP b)) := by
      unfold cv addP
      simp only []
      grind
    rw [e] at this
    exact this
  · obtain ⟨q, hq, rfl⟩ := mem_add.mp hm
    obtain ⟨b, hb, rfl⟩ := mem_sc.mp hq
    refine ⟨_, List.mem_map.mpr ⟨b, hb, rfl⟩, ?_⟩
    unfold addP sc negP subP
    simp only [Int.mul_neg]
    exact Prod.ext (by simp only []; omega) (by simp only []; omega)
  · obtain ⟨b, hb, rfl⟩ := List.mem_map.mp hn
    have e : subP p (sc w (negP b)) = addP p (sc w b) := by
      unfold addP sc negP subP
      simp only [Int.mul_neg]
      exact Prod.ext (by simp only []; omega) (by simp only []; omega)
    rw [e]
    exact in_self (mem_add.mpr ⟨_, mem_sc.mpr ⟨b, hb, rfl⟩, rfl⟩)
end GM

namespace LAW
open PySem PySem.Spec PyProof.Rows L2 PL
local macro_rules | `(tactic| simp! only [$ls,*]) => `(tactic| simp only [Nat.reduceLeDiff, lstK_le, fnM_run, fnF_run, cut_eq, cut_eqA, cut_lst, cl_non, cl_bl, cl_int, cl_str, cl_tup, cl_vls, cl_ptr, clL_nil, clL_cons, clL_int, clL_pD, cl_pD, lenD_vls, lenD_flst, ixD_vls, listF_tup, listF_vls, listF_flst, tupleD_vls, tupleD_tup, srcD_vls, lstF_run, slM_run, noP_run, inPt_run, inK_int, slD_tup, slD_vls, revD_tup, revD_vls, cut_but_last, cut_from1, cut_to1, decide_true, decide_false, chK_t, chK_f, Int.cast_ofNat_Int, Int.reduceEq, Int.reduceLT, Int.reduceLE, and_self, eq_self, startE, seqS_run, setS_run, dropS_run, retS_run, nxS_run, ifS_run, asgS_run, parS_run, forS_run, gNm_run, gNilM_run, gConsM_run, gTup2, gTup3, gSubM_run, seqK_nx, seqK_rt, seqK_bk, seqK_ct, outM_rt, outM_nx, lenM0, lenM1, lenM2, lenM3, lenM4, lenM5, callM_run, consA_run, nilA_run, tupM_run, lstM_run, tupK_0, tupK_le, tupK_1, tupK_2, tupK_3, tupK_4, binM_run, unM_run, tB_run, bB_bl, chainM_run, chK_t, chK_f, truM_run, andM_run, orM_run, notM_run, andT_run, orT_run, notT_run, ifM_run, cM_run, varM_run, varK_ok, yesT_run, addD_int, subD_int, negD_int, ltD_int, leD_int, gtD_int, geD_int, eqD_int, eqD_bl, eqD_str, neD_int, neD_bl, isnD_non, isnD_int, isnD_bl, isnD_str, isnD_tup, isnD_ptr, isbD_bl, notbD_bl, truD_bl, and_bl, or_bl, and_tt, or_tt, fun1_run, fun2_run, intD_int, intD_bl, absD_int, gcdD_int, lenD_tup, ixS_int, ixD_tup, ixD_flst, atK_some, at0, at1, at2, at3, on_ok, srcM_run, srcA_run, srcD_str, srcD_tup, srcD_flst, guard_none, List.map_cons, List.map_nil, List.length_cons, List.length_nil, Nat.reduceAdd, Nat.reduceSub, Nat.sub_self, List.replicate_succ, List.replicate_zero, List.append_nil, List.nil_append, List.cons_append, List.getElem?_cons_zero, List.getElem?_cons_succ, List.set_cons_zero, List.set_cons_succ, if_true, Bool.not_true, Bool.not_false, Bool.false_eq_true, if_false, Bool.true_and, Bool.false_and, Bool.and_true, Bool.and_false, Bool.true_or, Bool.false_or, Bool.or_true, Bool.or_false, $ls,*])
local macro_rules | `(tactic| simp! only []) => `(tactic| simp only [Nat.reduceLeDiff, lstK_le, fnM_run, fnF_run, cut_eq, cut_eqA, cut_lst, cl_non, cl_bl, cl_int, cl_str, cl_tup, cl_vls, cl_ptr, clL_nil, clL_cons, clL_int, clL_pD, cl_pD, lenD_vls, lenD_flst, ixD_vls, listF_tup, listF_vls, listF_flst, tupleD_vls, tupleD_tup, srcD_vls, lstF_run, slM_run, noP_run, inPt_run, inK_int, slD_tup, slD_vls, revD_tup, revD_vls, cut_but_last, cut_from1, cut_to1, decide_true, decide_false, chK_t, chK_f, Int.cast_ofNat_Int, Int.reduceEq, Int.reduceLT, Int.reduceLE, and_self, eq_self, startE, seqS_run, setS_run, dropS_run, retS_run, nxS_run, ifS_run, asgS_run, parS_run, forS_run, gNm_run, gNilM_run, gConsM_run, gTup2, gTup3, gSubM_run, seqK_nx, seqK_rt, seqK_bk, seqK_ct, outM_rt, outM_nx, lenM0, lenM1, lenM2, lenM3, lenM4, lenM5, callM_run, consA_run, nilA_run, tupM_run, lstM_run, tupK_0, tupK_le, tupK_1, tupK_2, tupK_3, tupK_4, binM_run, unM_run, tB_run, bB_bl, chainM_run, chK_t, chK_f, truM_run, andM_run, orM_run, notM_run, andT_run, orT_run, notT_run, ifM_run, cM_run, varM_run, varK_ok, yesT_run, addD_int, subD_int, negD_int, ltD_int, leD_int, gtD_int, geD_int, eqD_int, eqD_bl, eqD_str, neD_int, neD_bl, isnD_non, isnD_int, isnD_bl, isnD_str, isnD_tup, isnD_ptr, isbD_bl, notbD_bl, truD_bl, and_bl, or_bl, and_tt, or_tt, fun1_run, fun2_run, intD_int, intD_bl, absD_int, gcdD_int, lenD_tup, ixS_int, ixD_tup, ixD_flst, atK_some, at0, at1, at2, at3, on_ok, srcM_run, srcA_run, srcD_str, srcD_tup, srcD_flst, guard_none, List.map_cons, List.map_nil, List.length_cons, List.length_nil, Nat.reduceAdd, Nat.reduceSub, Nat.sub_self, List.replicate_succ, List.replicate_zero, List.append_nil, List.nil_append, List.cons_append, List.getElem?_cons_zero, List.getElem?_cons_succ, List.set_cons_zero, List.set_cons_succ, if_true, Bool.not_true, Bool.not_false, Bool.false_eq_true, if_false, Bool.true_and, Bool.false_and, Bool.and_true, Bool.and_false, Bool.true_or, Bool.false_or, Bool.or_true, Bool.or_false])
local macro_rules | `(tactic| simp! only [$ls,*] at $h:ident) => `(tactic| simp only [Nat.reduceLeDiff, lstK_le, fnM_run, fnF_run, cut_eq, cut_eqA, cut_lst, cl_non, cl_bl, cl_int, cl_str, cl_tup, cl_vls, cl_ptr, clL_nil, clL_cons, clL_int, clL_pD, cl_pD, lenD_vls, lenD_flst, ixD_vls, listF_tup, listF_vls, listF_flst, tupleD_vls, tupleD_tup, srcD_vls, lstF_run, slM_run, noP_run, inPt_run, inK_int, slD_tup, slD_vls, revD_tup, revD_vls, cut_but_last, cut_from1, cut_to1, decide_true, decide_false, chK_t, chK_f, Int.cast_ofNat_Int, Int.reduceEq, Int.reduceLT, Int.reduceLE, and_self, eq_self, startE, seqS_run, setS_run, dropS_run, retS_run, nxS_run, ifS_run, asgS_run, parS_run, forS_run, gNm_run, gNilM_run, gConsM_run, gTup2, gTup3, gSubM_run, seqK_nx, seqK_rt, seqK_bk, seqK_ct, outM_rt, outM_nx, lenM0, lenM1, lenM2, lenM3, lenM4, lenM5, callM_run, consA_run, nilA_run, tupM_run, lstM_run, tupK_0, tupK_le, tupK_1, tupK_2, tupK_3, tupK_4, binM_run, unM_run, tB_run, bB_bl, chainM_run, chK_t, chK_f, truM_run, andM_run, orM_run, notM_run, andT_run, orT_run, notT_run, ifM_run, cM_run, varM_run, varK_ok, yesT_run, addD_int, subD_int, negD_int, ltD_int, leD_int, gtD_int, geD_int, eqD_int, eqD_bl, eqD_str, neD_int, neD_bl, isnD_non, isnD_int, isnD_bl, isnD_str, isnD_tup, isnD_ptr, isbD_bl, notbD_bl, truD_bl, and_bl, or_bl, and_tt, or_tt, fun1_run, fun2_run, intD_int, intD_bl, absD_int, gcdD_int, lenD_tup, ixS_int, ixD_tup, ixD_flst, atK_some, at0, at1, at2, at3, on_ok, srcM_run, srcA_run, srcD_str, srcD_tup, srcD_flst, guard_none, List.map_cons, List.map_nil, List.length_cons, List.length_nil, Nat.reduceAdd, Nat.reduceSub, Nat.sub_self, List.replicate_succ, List.replicate_zero, List.append_nil, List.nil_append, List.cons_append, List.getElem?_cons_zero, List.getElem?_cons_succ, List.set_cons_zero, List.set_cons_succ, if_true, Bool.not_true, Bool.not_false, Bool.false_eq_true, if_false, Bool.true_and, Bool.false_and, Bool.and_true, Bool.and_false, Bool.true_or, Bool.false_or, Bool.or_true, Bool.or_false, $ls,*] at $h:ident)
def topS (i : Nat) : Stmt := PySem.Challenge.pw_roomyway_k05_apart_or_with_a_common_poin.main.body.getD i (.Pass ⟨0, 0, 0, 0⟩)
abbrev s__law_pot : Stmt := topS 20
abbrev N__law_pot : List Str := ["script", "seed", "cell"]
theorem sc__law_pot : FnScope N__law_pot ["script"] (defScope s__law_pot) := ⟨rfl, rfl, rfl, by decide +kernel, rfl, by decide +kernel, by decide +kernel⟩
abbrev s__law_next : Stmt := topS 21
abbrev N__law_next : List Str := ["pot", "limit", "mixed", "cell", "found"]
theorem sc__law_next : FnScope N__law_next ["pot", "limit"] (defScope s__law_next) := ⟨rfl, rfl, rfl, by decide +kernel, rfl, by decide +kernel, by decide +kernel⟩
abbrev s__law_area : Stmt := topS 32
abbrev N__law_area : List Str := ["a", "b", "c"]
theorem sc__law_area : FnScope N__law_area ["a", "b", "c"] (defScope s__law_area) := ⟨rfl, rfl, rfl, by decide +kernel, rfl, by decide +kernel, by decide +kernel⟩
abbrev s__law_hull : Stmt := topS 33
abbrev N__law_hull : List Str := ["corners", "order", "found", "k", "now", "best", "corner", "turn", "far"]
theorem sc__law_hull : FnScope N__law_hull ["corners"] (defScope s__law_hull) := ⟨rfl, rfl, rfl, by decide +kernel, rfl, by decide +kernel, by decide +kernel⟩
abbrev s__law_piece : Stmt := topS 36
abbrev N__law_piece : List Str := ["pot", "at", "size", "many", "corners", "k"]
theorem sc__law_piece : FnScope N__law_piece ["pot", "at", "size"] (defScope s__law_piece) := ⟨rfl, rfl, rfl, by decide +kernel, rfl, by decide +kernel, by decide +kernel⟩
abbrev s__law_ratio : Stmt := topS 40
abbrev N__law_ratio : List Str := ["n", "d", "k", "j"]
theorem sc__law_ratio : FnScope N__law_ratio ["n", "d"] (defScope s__law_ratio) := ⟨rfl, rfl, rfl, by decide +kernel, rfl, by decide +kernel, by decide +kernel⟩
abbrev s__law_place : Stmt := topS 41
abbrev N__law_place : List Str := ["pot", "width", "height", "d"]
theorem sc__law_place : FnScope N__law_place ["pot", "width", "height"] (defScope s__law_place) := ⟨rfl, rfl, rfl, by decide +kernel, rfl, by decide +kernel, by decide +kernel⟩
abbrev s__law_scale : Stmt := topS 23
abbrev N__law_scale : List Str := ["p"]
theorem sc__law_scale : FnScope N__law_scale ["p"] (defScope s__law_scale) := ⟨rfl, rfl, rfl, by decide +kernel, rfl, by decide +kernel, by decide +kernel⟩
abbrev s__law_corners : Stmt := topS 28
abbrev N__law_corners : List Str := ["piece", "corner"]
theorem sc__law_corners : FnScope N__law_corners ["piece"] (defScope s__law_corners) := ⟨rfl, rfl, rfl, by decide +kernel, rfl, by decide +kernel, by decide +kernel⟩
abbrev s__law_det : Stmt := topS 24
abbrev N__law_det : List Str := ["a", "b", "c", "left", "right"]
theorem sc__law_det : FnScope N__law_det ["a", "b", "c"] (defScope s__law_det) := ⟨rfl, rfl, rfl, by decide +kernel, rfl, by decide +kernel, by decide +kernel⟩
abbrev s__law_mid : Stmt := topS 25
abbrev N__law_mid : List Str := ["a", "b", "c"]
theorem sc__law_mid : FnScope N__law_mid ["a", "b", "c"] (defScope s__law_mid) := ⟨rfl, rfl, rfl, by decide +kernel, rfl, by decide +kernel, by decide +kernel⟩
abbrev s__law_on : Stmt := topS 26
abbrev N__law_on : List Str := ["p", "a", "b", "both", "k"]
theorem sc__law_on : FnScope N__law_on ["p", "a", "b"] (defScope s__law_on) := ⟨rfl, rfl, rfl, by decide +kernel, rfl, by decide +kernel, by decide +kernel⟩
abbrev s__law_in : Stmt := topS 29
abbrev N__law_in : List Str := ["p", "corners", "k", "signs", "sign"]
theorem sc__law_in : FnScope N__law_in ["p", "corners"] (defScope s__law_in) := ⟨rfl, rfl, rfl, by decide +kernel, rfl, by decide +kernel, by decide +kernel⟩
abbrev s__law_meet : Stmt := topS 27
abbrev N__law_meet : List Str := ["a", "b", "c", "d"]
theorem sc__law_meet : FnScope N__law_meet ["a", "b", "c", "d"] (defScope s__law_meet) := ⟨rfl, rfl, rfl, by decide +kernel, rfl, by decide +kernel, by decide +kernel⟩
abbrev s__law_apart : Stmt := topS 31
abbrev N__law_apart : List Str := ["a", "b", "corners", "k"]
theorem sc__law_apart : FnScope N__law_apart ["a", "b", "corners"] (defScope s__law_apart) := ⟨rfl, rfl, rfl, by decide +kernel, rfl, by decide +kernel, by decide +kernel⟩
abbrev s_segment : Stmt := topS 10
abbrev N_segment : List Str := ["a", "b", "w", "ax", "aw", "ay", "ah", "bx", "bw", "by", "bh"]
theorem sc_segment : FnScope N_segment ["a", "b"] (defScope s_segment) := ⟨rfl, rfl, rfl, by decide +kernel, rfl, by decide +kernel, by decide +kernel⟩
abbrev s_sides_of : Stmt := topS 8
abbrev N_sides_of : List Str := ["piece", "a", "b"]
theorem sc_sides_of : FnScope N_sides_of ["piece"] (defScope s_sides_of) := ⟨rfl, rfl, rfl, by decide +kernel, rfl, by decide +kernel, by decide +kernel⟩
abbrev s_lowest : Stmt := topS 9
abbrev N_lowest : List Str := ["u", "v", "common"]
theorem sc_lowest : FnScope N_lowest ["u", "v"] (defScope s_lowest) := ⟨rfl, rfl, rfl, by decide +kernel, rfl, by decide +kernel, by decide +kernel⟩
abbrev s_planes_of : Stmt := topS 7
abbrev N_planes_of : List Str := ["piece", "xs", "ys", "found", "ax", "ay", "bx", "by", "_", "x", "y", "u", "v"]
theorem sc_planes_of : FnScope N_planes_of ["piece"] (defScope s_planes_of) := ⟨rfl, rfl, rfl, by decide +kernel, rfl, by decide +kernel, by decide +kernel⟩
abbrev s_directions : Stmt := topS 17
abbrev N_directions : List Str := ["ends", "piece", "found", "ax", "ay", "bx", "by", "_", "u", "v"]
theorem sc_directions : FnScope N_directions ["ends", "piece"] (defScope s_directions) := ⟨rfl, rfl, rfl, by decide +kernel, rfl, by decide +kernel, by decide +kernel⟩
abbrev s_ratio : Stmt := topS 2
abbrev N_ratio : List Str := ["n", "d", "common"]
theorem sc_ratio : FnScope N_ratio ["n", "d"] (defScope s_ratio) := ⟨rfl, rfl, rfl, by decide +kernel, rfl, by decide +kernel, by decide +kernel⟩
abbrev s_middle : Stmt := topS 4
abbrev N_middle : List Str := ["a", "b"]
theorem sc_middle : FnScope N_middle ["a", "b"] (defScope s_middle) := ⟨rfl, rfl, rfl, by decide +kernel, rfl, by decide +kernel, by decide +kernel⟩
abbrev s_line_between : Stmt := topS 16
abbrev N_line_between : List Str := ["a", "b", "piece", "ends", "ax", "ay", "bx", "by", "w", "u", "v", "least", "greatest", "x", "y"]
theorem sc_line_between : FnScope N_line_between ["a", "b", "piece"] (defScope s_line_between) := ⟨rfl, rfl, rfl, by decide +kernel, rfl, by decide +kernel, by decide +kernel⟩
abbrev s_part_in : Stmt := topS 11
abbrev N_part_in : List Str := ["ends", "fence", "depth", "ax", "ay", "bx", "by", "w", "low", "under", "high", "over", "u", "v", "c", "first", "last"]
theorem sc_part_in : FnScope N_part_in ["ends", "fence", "depth"] (defScope s_part_in) := ⟨rfl, rfl, rfl, by decide +kernel, rfl, by decide +kernel, by decide +kernel⟩
abbrev s_point_at : Stmt := topS 12
abbrev N_point_at : List Str := ["ends", "share", "ax", "ay", "bx", "by", "w", "n", "d"]
theorem sc_point_at : FnScope N_point_at ["ends", "share"] (defScope s_point_at) := ⟨rfl, rfl, rfl, by decide +kernel, rfl, by decide +kernel, by decide +kernel⟩
abbrev s_common_point : Stmt := topS 15
abbrev N_common_point : List Str := ["a", "b", "piece", "ends", "part"]
theorem sc_common_point : FnScope N_common_point ["a", "b", "piece"] (defScope s_common_point) := ⟨rfl, rfl, rfl, by decide +kernel, rfl, by decide +kernel, by decide +kernel⟩
abbrev s_are_apart : Stmt := topS 14
abbrev N_are_apart : List Str := ["a", "b", "piece"]
theorem sc_are_apart : FnScope N_are_apart ["a", "b", "piece"] (defScope s_are_apart) := ⟨rfl, rfl, rfl, by decide +kernel, rfl, by decide +kernel, by decide +kernel⟩
abbrev s__law_other : Stmt := topS 22
abbrev N__law_other : List Str := ["found", "due"]
theorem sc__law_other : FnScope N__law_other ["found", "due"] (defScope s__law_other) := ⟨rfl, rfl, rfl, by decide +kernel, rfl, by decide +kernel, by decide +kernel⟩
abbrev s__law_product : Stmt := topS 43
abbrev N__law_product : List Str := ["u", "p"]
theorem sc__law_product : FnScope N__law_product ["u", "p"] (defScope s__law_product) := ⟨rfl, rfl, rfl, by decide +kernel, rfl, by decide +kernel, by decide +kernel⟩
abbrev s__law_less : Stmt := topS 42
abbrev N__law_less : List Str := ["a", "b"]
theorem sc__law_less : FnScope N__law_less ["a", "b"] (defScope s__law_less) := ⟨rfl, rfl, rfl, by decide +kernel, rfl, by decide +kernel, by decide +kernel⟩
abbrev s__law_lies_between : Stmt := topS 44
abbrev N__law_lies_between : List Str := ["u", "c", "a", "b", "piece", "corner"]
theorem sc__law_lies_between : FnScope N__law_lies_between ["u", "c", "a", "b", "piece"] (defScope s__law_lies_between) := ⟨rfl, rfl, rfl, by decide +kernel, rfl, by decide +kernel, by decide +kernel⟩
abbrev s_is_less : Stmt := topS 3
abbrev N_is_less : List Str := ["a", "b"]
theorem sc_is_less : FnScope N_is_less ["a", "b"] (defScope s_is_less) := ⟨rfl, rfl, rfl, by decide +kernel, rfl, by decide +kernel, by decide +kernel⟩
abbrev s_is_line_between : Stmt := topS 18
abbrev N_is_line_between : List Str := ["line", "a", "b", "piece", "c", "u", "v", "xn", "xd", "yn", "yd", "x", "y"]
theorem sc_is_line_between : FnScope N_is_line_between ["line", "a", "b", "piece"] (defScope s_is_line_between) := ⟨rfl, rfl, rfl, by decide +kernel, rfl, by decide +kernel, by decide +kernel⟩
abbrev s_law : Stmt := topS 45
abbrev N_law : List Str := ["script", "pot", "k", "piece", "a", "b", "p", "q", "apart", "line", "common", "u", "c"]
theorem sc_law : FnScope N_law ["script"] (defScope s_law) := ⟨rfl, rfl, rfl, by decide +kernel, rfl, by decide +kernel, by decide +kernel⟩

@[reducible] noncomputable def B__law_pot_1 : PL.Env → M Out :=
    (setS 1 (binM modD (callM (fun1 intD) (consA (binM addD (binM mulD (varM 1) (cM (.int 31))) (varM 2)) nilA)) (cM (.int 2147483647))))
noncomputable def m__law_pot : PL.Env → M Out :=
    (seqS (setS 1 (cM (.int 1)))
    (seqS (forS (srcM (varM 0)) (gNm 2) B__law_pot_1)
    (retS (lstM (consA (callM (fun1 listF) (consA (varM 0) nilA)) (consA (cM (.int 0)) (consA (cM (.int 0)) (consA (varM 1) nilA))))))))
noncomputable def F__law_pot : List D → M D := fnM 3 m__law_pot
noncomputable def m__law_next : PL.Env → M Out :=
    (seqS (ifS (andT (tB (binM eqD (binM ixD (varM 0) (cM (.int 2))) (cM (.int 0)))) (tB (binM ltD (binM ixD (varM 0) (cM (.int 1))) (callM (fun1 lenD) (consA (binM ixD (varM 0) (cM (.int 0))) nilA))))) (seqS (setS 3 (callM (fun1 absD) (consA (callM (fun1 intD) (consA (binM ixD (binM ixD (varM 0) (cM (.int 0))) (binM ixD (varM 0) (cM (.int 1)))) nilA)) nilA)))
    (seqS (asgS (binM addD (binM ixD (varM 0) (cM (.int 1))) (cM (.int 1))) (gSubM (varM 0) (cM (.int 1)) setLD))
    (seqS (ifS (tB (binM ltD (varM 3) (binM powD (cM (.int 10)) (cM (.int 18))))) (retS (binM modD (callM (fun1 intD) (consA (varM 3) nilA)) (varM 1))) nxS)
    (asgS (varM 3) (gSubM (varM 0) (cM (.int 2)) setLD))))) nxS)
    (seqS (ifS (tB (binM gtD (binM ixD (varM 0) (cM (.int 2))) (cM (.int 0)))) (seqS (setS 4 (binM modD (callM (fun1 intD) (consA (binM ixD (varM 0) (cM (.int 2))) nilA)) (varM 1)))
    (seqS (asgS (binM fdivD (binM ixD (varM 0) (cM (.int 2))) (varM 1)) (gSubM (varM 0) (cM (.int 2)) setLD))
    (retS (varM 4)))) nxS)
    (seqS (asgS (binM modD (callM (fun1 intD) (consA (binM addD (binM mulD (binM ixD (varM 0) (cM (.int 3))) (cM (.int 48271))) (cM (.int 12345))) nilA)) (cM (.int 2147483647))) (gSubM (varM 0) (cM (.int 3)) setLD))
    (seqS (setS 2 (binM modD (callM (fun1 intD) (consA (binM addD (binM mulD (binM ixD (varM 0) (cM (.int 3))) (cM (.int 69621))) (binM fdivD (binM ixD (varM 0) (cM (.int 3))) (cM (.int 127)))) nilA)) (cM (.int 2147483629))))
    (retS (binM modD (callM (fun1 intD) (consA (varM 2) nilA)) (varM 1)))))))
noncomputable def F__law_next : List D → M D := fnF 5 m__law_next
noncomputable def m__law_area : PL.Env → M Out :=
    (retS (binM subD (binM mulD (binM subD (binM ixD (varM 1) (cM (.int 0))) (binM ixD (varM 0) (cM (.int 0)))) (binM subD (binM ixD (varM 2) (cM (.int 1))) (binM ixD (varM 0) (cM (.int 1))))) (binM mulD (binM subD (binM ixD (varM 1) (cM (.int 1))) (binM ixD (varM 0) (cM (.int 1)))) (binM subD (binM ixD (varM 2) (cM (.int 0))) (binM ixD (varM 0) (cM (.int 0)))))))
noncomputable def F__law_area : List D → M D := fnF 3 m__law_area
@[reducible] noncomputable def E__law_hull_1 : PL.Env → M D :=
    (tupM (consA (varM 6) (consA (cM (.bl true)) nilA)))
@[reducible] noncomputable def B__law_hull_2 : PL.Env → M Out :=
    (seqS (setS 7 (callM (lenM 3 F__law_area) (consA (varM 4) (consA (varM 5) (consA (varM 6) nilA)))))
    (seqS (setS 8 (binM addD (binM powD (binM subD (binM ixD (varM 6) (cM (.int 0))) (binM ixD (varM 4) (cM (.int 0)))) (cM (.int 2))) (binM powD (binM subD (binM ixD (varM 6) (cM (.int 1))) (binM ixD (varM 4) (cM (.int 1)))) (cM (.int 2)))))
    (ifS (andT (tB (binM neD (varM 6) (varM 4))) (orT (tB (binM ltD (varM 7) (cM (.int 0)))) (andT (tB (binM eqD (varM 7) (cM (.int 0)))) (tB (binM gtD (varM 8) (binM addD (binM powD (binM subD (binM ixD (varM 5) (cM (.int 0))) (binM ixD (varM 4) (cM (.int 0)))) (cM (.int 2))) (binM powD (binM subD (binM ixD (varM 5) (cM (.int 1))) (binM ixD (varM 4) (cM (.int 1)))) (cM (.int 2))))))))) (setS 5 (varM 6)) nxS)))
@[reducible] noncomputable def B__law_hull_3 : PL.Env → M Out :=
    (seqS (setS 4 (binM ixD (varM 2) (binM subD (callM (fun1 lenD) (consA (varM 2) nilA)) (cM (.int 1)))))
    (seqS (setS 5 (ifM (tB (binM neD (binM ixD (varM 1) (cM (.int 0))) (varM 4))) (binM ixD (varM 1) (cM (.int 0))) (binM ixD (varM 1) (cM (.int 1)))))
    (seqS (forS (srcM (varM 1)) (gNm 6) B__law_hull_2)
    (seqS (ifS (tB (binM eqD (varM 5) (binM ixD (varM 2) (cM (.int 0))))) (retS (callM (fun1 tupleD) (consA (varM 2) nilA))) nxS)
    (dropS (methM appendD (varM 2) (consA (varM 5) nilA)))))))
noncomputable def m__law_hull : PL.Env → M Out :=
    (seqS (setS 1 (unM sdD (compF (srcM (varM 0)) (gNm 6) yesT E__law_hull_1 [6])))
    (seqS (ifS (tB (binM eqD (callM (fun1 lenD) (consA (varM 1) nilA)) (cM (.int 1)))) (retS (callM (fun1 tupleD) (consA (varM 1) nilA))) nxS)
    (seqS (setS 2 (lstM (consA (binM ixD (varM 1) (cM (.int 0))) nilA)))
    (seqS (forS (srcA rng1D (consA (callM (fun1 lenD) (consA (varM 1) nilA)) nilA)) (gNm 3) B__law_hull_3)
    (retS (callM (fun1 tupleD) (consA (varM 2) nilA)))))))
noncomputable def F__law_hull : List D → M D := fnF 9 m__law_hull
@[reducible] noncomputable def B__law_piece_1 : PL.Env → M Out :=
    (dropS (methM appendD (varM 4) (consA (tupM (consA (binM addD (binM ixD (varM 1) (cM (.int 0))) (callM (lenM 2 F__law_next) (consA (varM 0) (consA (varM 2) nilA)))) (consA (binM addD (binM ixD (varM 1) (cM (.int 1))) (callM (lenM 2 F__law_next) (consA (varM 0) (consA (varM 2) nilA)))) nilA))) nilA)))
noncomputable def m__law_piece : PL.Env → M Out :=
    (seqS (setS 3 (binM ixD (lstF (consA (cM (.int 1)) (consA (cM (.int 2)) (consA (cM (.int 3)) (consA (cM (.int 3)) (consA (cM (.int 4)) (consA (cM (.int 5)) nilA))))))) (callM (lenM 2 F__law_next) (consA (varM 0) (consA (cM (.int 6)) nilA)))))
    (seqS (setS 4 (lstM nilA))
    (seqS (forS (srcA rng1D (consA (varM 3) nilA)) (gNm 5) B__law_piece_1)
    (retS (callM (lenM 1 F__law_hull) (consA (varM 4) nilA))))))
noncomputable def F__law_piece : List D → M D := fnF 6 m__law_piece
@[reducible] noncomputable def B__law_ratio_1 : PL.Env → M Out :=
    (ifS (andT (tB (binM eqD (binM modD (callM (fun1 intD) (consA (varM 0) nilA)) (varM 2)) (cM (.int 0)))) (andT (tB (binM eqD (binM modD (callM (fun1 intD) (consA (varM 1) nilA)) (varM 2)) (cM (.int 0)))) (tB (binM gtD (varM 1) (cM (.int 1)))))) (seqS (setS 0 (binM fdivD (varM 0) (varM 2)))
    (setS 1 (binM fdivD (varM 1) (varM 2)))) nxS)
@[reducible] noncomputable def B__law_ratio_2 : PL.Env → M Out :=
    (forS (srcA rng1D (consA (cM (.int 4)) nilA)) (gNm 3) B__law_ratio_1)
noncomputable def m__law_ratio : PL.Env → M Out :=
    (seqS (forS (srcM (lstF (consA (cM (.int 2)) (consA (cM (.int 3)) (consA (cM (.int 5)) nilA))))) (gNm 2) B__law_ratio_2)
    (seqS (ifS (tB (binM eqD (varM 0) (cM (.int 0)))) (setS 1 (cM (.int 1))) nxS)
    (retS (tupM (consA (varM 0) (consA (varM 1) nilA))))))
noncomputable def F__law_ratio : List D → M D := fnF 4 m__law_ratio
noncomputable def m__law_place : PL.Env → M Out :=
    (seqS (setS 3 (binM ixD (lstF (consA (cM (.int 1)) (consA (cM (.int 1)) (consA (cM (.int 2)) (consA (cM (.int 3)) nilA))))) (callM (lenM 2 F__law_next) (consA (varM 0) (consA (cM (.int 4)) nilA)))))
    (retS (tupM (consA (callM (lenM 2 F__law_ratio) (consA (callM (lenM 2 F__law_next) (consA (varM 0) (consA (binM addD (binM mulD (varM 1) (varM 3)) (cM (.int 1))) nilA))) (consA (varM 3) nilA))) (consA (callM (lenM 2 F__law_ratio) (consA (callM (lenM 2 F__law_next) (consA (varM 0) (consA (binM addD (binM mulD (varM 2) (varM 3)) (cM (.int 1))) nilA))) (consA (varM 3) nilA))) nilA)))))
noncomputable def F__law_place : List D → M D := fnF 4 m__law_place
noncomputable def m__law_scale : PL.Env → M Out :=
    (retS (tupM (consA (binM mulD (binM ixD (binM ixD (varM 0) (cM (.int 0))) (cM (.int 0))) (binM ixD (binM ixD (varM 0) (cM (.int 1))) (cM (.int 1)))) (consA (binM mulD (binM ixD (binM ixD (varM 0) (cM (.int 1))) (cM (.int 0))) (binM ixD (binM ixD (varM 0) (cM (.int 0))) (cM (.int 1)))) (consA (binM mulD (binM ixD (binM ixD (varM 0) (cM (.int 0))) (cM (.int 1))) (binM ixD (binM ixD (varM 0) (cM (.int 1))) (cM (.int 1)))) nilA)))))
noncomputable def F__law_scale : List D → M D := fnF 1 m__law_scale
@[reducible] noncomputable def E__law_corners_1 : PL.Env → M D :=
    (tupM (consA (binM ixD (varM 1) (cM (.int 0))) (consA (binM ixD (varM 1) (cM (.int 1))) (consA (cM (.int 1)) nilA))))
noncomputable def m__law_corners : PL.Env → M Out :=
    (retS (compF (srcM (varM 0)) (gNm 1) yesT E__law_corners_1 [1]))
noncomputable def F__law_corners : List D → M D := fnF 2 m__law_corners
noncomputable def m__law_det : PL.Env → M Out :=
    (seqS (setS 3 (binM mulD (binM subD (binM mulD (binM ixD (varM 1) (cM (.int 0))) (binM ixD (varM 0) (cM (.int 2)))) (binM mulD (binM ixD (varM 0) (cM (.int 0))) (binM ixD (varM 1) (cM (.int 2))))) (binM subD (binM mulD (binM ixD (varM 2) (cM (.int 1))) (binM ixD (varM 0) (cM (.int 2)))) (binM mulD (binM ixD (varM 0) (cM (.int 1))) (binM ixD (varM 2) (cM (.int 2)))))))
    (seqS (setS 4 (binM mulD (binM subD (binM mulD (binM ixD (varM 1) (cM (.int 1))) (binM ixD (varM 0) (cM (.int 2)))) (binM mulD (binM ixD (varM 0) (cM (.int 1))) (binM ixD (varM 1) (cM (.int 2))))) (binM subD (binM mulD (binM ixD (varM 2) (cM (.int 0))) (binM ixD (varM 0) (cM (.int 2)))) (binM mulD (binM ixD (varM 0) (cM (.int 0))) (binM ixD (varM 2) (cM (.int 2)))))))
    (retS (binM subD (callM (fun1 intD) (consA (binM gtD (varM 3) (varM 4)) nilA)) (callM (fun1 intD) (consA (binM ltD (varM 3) (varM 4)) nilA))))))
noncomputable def F__law_det : List D → M D := fnF 5 m__law_det
noncomputable def m__law_mid : PL.Env → M Out :=
    (retS (orM (andM (binM leD (varM 0) (varM 1)) (binM leD (varM 1) (varM 2))) (andM (binM leD (varM 2) (varM 1)) (binM leD (varM 1) (varM 0)))))
noncomputable def F__law_mid : List D → M D := fnF 3 m__law_mid
@[reducible] noncomputable def E__law_on_1 : PL.Env → M D :=
    (callM (lenM 3 F__law_mid) (consA (binM mulD (binM mulD (binM ixD (varM 1) (varM 4)) (binM ixD (varM 2) (cM (.int 2)))) (binM ixD (varM 0) (cM (.int 2)))) (consA (binM mulD (binM ixD (varM 0) (varM 4)) (varM 3)) (consA (binM mulD (binM mulD (binM ixD (varM 2) (varM 4)) (binM ixD (varM 1) (cM (.int 2)))) (binM ixD (varM 0) (cM (.int 2)))) nilA))))
noncomputable def m__law_on : PL.Env → M Out :=
    (seqS (ifS (tB (binM neD (callM (lenM 3 F__law_det) (consA (varM 1) (consA (varM 2) (consA (varM 0) nilA)))) (cM (.int 0)))) (retS (cM (.bl false))) nxS)
    (seqS (setS 3 (binM mulD (binM ixD (varM 1) (cM (.int 2))) (binM ixD (varM 2) (cM (.int 2)))))
    (retS (callM (fun1 allD) (consA (compF (srcA rng1D (consA (cM (.int 2)) nilA)) (gNm 4) yesT E__law_on_1 [4]) nilA)))))
noncomputable def F__law_on : List D → M D := fnF 5 m__law_on
@[reducible] noncomputable def E__law_in_1 : PL.Env → M D :=
    (binM ltD (varM 4) (cM (.int 0)))
@[reducible] noncomputable def B__law_in_2 : PL.Env → M Out :=
    (seqS (setS 3 (lstF (consA (callM (lenM 3 F__law_det) (consA (binM ixD (varM 1) (cM (.int 0))) (consA (binM ixD (varM 1) (varM 2)) (consA (varM 0) nilA)))) (consA (callM (lenM 3 F__law_det) (consA (binM ixD (varM 1) (varM 2)) (consA (binM ixD (varM 1) (binM addD (varM 2) (cM (.int 1)))) (consA (varM 0) nilA)))) (consA (callM (lenM 3 F__law_det) (consA (binM ixD (varM 1) (binM addD (varM 2) (cM (.int 1)))) (consA (binM ixD (varM 1) (cM (.int 0))) (consA (varM 0) nilA)))) nilA)))))
    (ifS (notT (truM (callM (fun1 anyD) (consA (compF (srcM (varM 3)) (gNm 4) yesT E__law_in_1 [4]) nilA)))) (retS (cM (.bl true))) nxS))
noncomputable def m__law_in : PL.Env → M Out :=
    (seqS (ifS (tB (binM ltD (callM (fun1 lenD) (consA (varM 1) nilA)) (cM (.int 3)))) (retS (callM (lenM 3 F__law_on) (consA (varM 0) (consA (binM ixD (varM 1) (cM (.int 0))) (consA (binM ixD (varM 1) (binM subD (callM (fun1 lenD) (consA (varM 1) nilA)) (cM (.int 1)))) nilA))))) nxS)
    (seqS (forS (srcA rng2D (consA (cM (.int 1)) (consA (binM subD (callM (fun1 lenD) (consA (varM 1) nilA)) (cM (.int 1))) nilA))) (gNm 2) B__law_in_2)
    (retS (cM (.bl false)))))
noncomputable def F__law_in : List D → M D := fnF 5 m__law_in
noncomputable def m__law_meet : PL.Env → M Out :=
    (seqS (ifS (orT (truM (callM (lenM 3 F__law_on) (consA (varM 0) (consA (varM 2) (consA (varM 3) nilA))))) (orT (truM (callM (lenM 3 F__law_on) (consA (varM 1) (consA (varM 2) (consA (varM 3) nilA))))) (orT (truM (callM (lenM 3 F__law_on) (consA (varM 2) (consA (varM 0) (consA (varM 1) nilA))))) (truM (callM (lenM 3 F__law_on) (consA (varM 3) (consA (varM 0) (consA (varM 1) nilA)))))))) (retS (cM (.bl true))) nxS)
    (retS (andM (binM ltD (binM mulD (callM (lenM 3 F__law_det) (consA (varM 0) (consA (varM 1) (consA (varM 2) nilA)))) (callM (lenM 3 F__law_det) (consA (varM 0) (consA (varM 1) (consA (varM 3) nilA))))) (cM (.int 0))) (binM ltD (binM mulD (callM (lenM 3 F__law_det) (consA (varM 2) (consA (varM 3) (consA (varM 0) nilA)))) (callM (lenM 3 F__law_det) (consA (varM 2) (consA (varM 3) (consA (varM 1) nilA))))) (cM (.int 0))))))
noncomputable def F__law_meet : List D → M D := fnF 4 m__law_meet
@[reducible] noncomputable def E__law_apart_1 : PL.Env → M D :=
    (callM (lenM 4 F__law_meet) (consA (varM 0) (consA (varM 1) (consA (binM ixD (varM 2) (binM subD (varM 3) (cM (.int 1)))) (consA (binM ixD (varM 2) (varM 3)) nilA)))))
noncomputable def m__law_apart : PL.Env → M Out :=
    (seqS (ifS (orT (truM (callM (lenM 2 F__law_in) (consA (varM 0) (consA (varM 2) nilA)))) (truM (callM (lenM 2 F__law_in) (consA (varM 1) (consA (varM 2) nilA))))) (retS (cM (.bl false))) nxS)
    (retS (notM (callM (fun1 anyD) (consA (compF (srcA rng1D (consA (callM (fun1 lenD) (consA (varM 2) nilA)) nilA)) (gNm 3) yesT E__law_apart_1 [3]) nilA)))))
noncomputable def F__law_apart : List D → M D := fnF 4 m__law_apart
noncomputable def m_segment : PL.Env → M Out :=
    (seqS (asgS (varM 0) (gTupM 2 (gConsM (gTupM 2 (gConsM (gNm 3) (gConsM (gNm 4) gNilM))) (gConsM (gTupM 2 (gConsM (gNm 5) (gConsM (gNm 6) gNilM))) gNilM))))
    (seqS (asgS (varM 1) (gTupM 2 (gConsM (gTupM 2 (gConsM (gNm 7) (gConsM (gNm 8) gNilM))) (gConsM (gTupM 2 (gConsM (gNm 9) (gConsM (gNm 10) gNilM))) gNilM))))
    (seqS (setS 2 (callM (lcm4D) (consA (varM 4) (consA (varM 6) (consA (varM 8) (consA (varM 10) nilA))))))
    (retS (tupM (consA (binM mulD (varM 3) (binM fdivD (varM 2) (varM 4))) (consA (binM mulD (varM 5) (binM fdivD (varM 2) (varM 6))) (consA (binM mulD (varM 7) (binM fdivD (varM 2) (varM 8))) (consA (binM mulD (varM 9) (binM fdivD (varM 2) (varM 10))) (consA (varM 2) nilA))))))))))
noncomputable def F_segment : List D → M D := fnF 11 m_segment
@[reducible] noncomputable def E_sides_of_1 : PL.Env → M D :=
    (binM addD (binM addD (varM 1) (varM 2)) (tupM (consA (cM (.int 1)) nilA)))
noncomputable def m_sides_of : PL.Env → M Out :=
    (retS (compF (srcA zipD (consA (varM 0) (consA (binM addD (slM (varM 0) (inPt (cM (.int 1))) noP) (slM (varM 0) noP (inPt (cM (.int 1))))) nilA))) (gTupM 2 (gConsM (gNm 1) (gConsM (gNm 2) gNilM))) yesT E_sides_of_1 [1, 2]))
noncomputable def F_sides_of : List D → M D := fnF 3 m_sides_of
noncomputable def m_lowest : PL.Env → M Out :=
    (seqS (setS 2 (callM (fun2 gcdD) (consA (varM 0) (consA (varM 1) nilA))))
    (retS (tupM (consA (binM fdivD (varM 0) (varM 2)) (consA (binM fdivD (varM 1) (varM 2)) nilA)))))
noncomputable def F_lowest : List D → M D := fnF 3 m_lowest
@[reducible] noncomputable def E_planes_of_1 : PL.Env → M D :=
    (varM 9)
@[reducible] noncomputable def E_planes_of_2 : PL.Env → M D :=
    (varM 10)
@[reducible] noncomputable def B_planes_of_3 : PL.Env → M Out :=
    (seqS (asgS (callM (lenM 2 F_lowest) (consA (binM subD (varM 5) (varM 7)) (consA (binM subD (varM 6) (varM 4)) nilA))) (gTupM 2 (gConsM (gNm 11) (gConsM (gNm 12) gNilM))))
    (asgS (cM (.bl true)) (gSubT (varM 3) (keyM (consA (varM 11) (consA (varM 12) (consA (binM addD (binM mulD (varM 11) (varM 4)) (binM mulD (varM 12) (varM 5))) nilA)))))))
noncomputable def m_planes_of : PL.Env → M Out :=
    (seqS (setS 1 (compF (srcM (varM 0)) (gTupM 2 (gConsM (gNm 9) (gConsM (gNm 8) gNilM))) yesT E_planes_of_1 [9, 8]))
    (seqS (setS 2 (compF (srcM (varM 0)) (gTupM 2 (gConsM (gNm 8) (gConsM (gNm 10) gNilM))) yesT E_planes_of_2 [8, 10]))
    (seqS (setS 3 (dispTM (tCons (keyM (consA (cM (.int 1)) (consA (cM (.int 0)) (consA (callM (fun1 minLD) (consA (varM 1) nilA)) nilA)))) (cM (.bl true)) (tCons (keyM (consA (unM negD (cM (.int 1))) (consA (cM (.int 0)) (consA (unM negD (callM (fun1 maxLD) (consA (varM 1) nilA))) nilA)))) (cM (.bl true)) (tCons (keyM (consA (cM (.int 0)) (consA (cM (.int 1)) (consA (callM (fun1 minLD) (consA (varM 2) nilA)) nilA)))) (cM (.bl true)) (tCons (keyM (consA (cM (.int 0)) (consA (unM negD (cM (.int 1))) (consA (unM negD (callM (fun1 maxLD) (consA (varM 2) nilA))) nilA)))) (cM (.bl true)) tNil))))))
    (seqS (ifS (tB (binM gtD (callM (fun1 lenD) (consA (varM 0) nilA)) (cM (.int 1)))) (forS (srcM (callM (lenM 1 F_sides_of) (consA (varM 0) nilA))) (gTupM 5 (gConsM (gNm 4) (gConsM (gNm 5) (gConsM (gNm 6) (gConsM (gNm 7) (gConsM (gNm 8) gNilM)))))) B_planes_of_3) nxS)
    (retS (callM (fun1 listT) (consA (varM 3) nilA)))))))
noncomputable def F_planes_of : List D → M D := fnF 13 m_planes_of
@[reducible] noncomputable def E_directions_1 : PL.Env → M D :=
    (tupM (consA (unM negD (varM 8)) (consA (unM negD (varM 9)) nilA)))
noncomputable def m_directions : PL.Env → M Out :=
    (seqS (setS 2 (compM (srcM (callM (lenM 1 F_planes_of) (consA (varM 1) nilA))) (gTupM 3 (gConsM (gNm 8) (gConsM (gNm 9) (gConsM (gNm 7) gNilM)))) yesT E_directions_1 [8, 9, 7]))
    (seqS (asgS (varM 0) (gTupM 5 (gConsM (gNm 3) (gConsM (gNm 4) (gConsM (gNm 5) (gConsM (gNm 6) (gConsM (gNm 7) gNilM)))))))
    (seqS (ifS (tB (binM neD (tupM (consA (varM 3) (consA (varM 4) nilA))) (tupM (consA (varM 5) (consA (varM 6) nilA))))) (seqS (asgS (callM (lenM 2 F_lowest) (consA (binM subD (varM 4) (varM 6)) (consA (binM subD (varM 5) (varM 3)) nilA))) (gTupM 2 (gConsM (gNm 8) (gConsM (gNm 9) gNilM))))
    (dropS (methM extendD (varM 2) (consA (lstF (consA (tupM (consA (varM 8) (consA (varM 9) nilA))) (consA (tupM (consA (unM negD (varM 8)) (consA (unM negD (varM 9)) nilA))) nilA))) nilA)))) nxS)
    (retS (varM 2)))))
noncomputable def F_directions : List D → M D := fnF 10 m_directions
noncomputable def m_ratio : PL.Env → M Out :=
    (seqS (setS 2 (callM (fun2 gcdD) (consA (varM 0) (consA (varM 1) nilA))))
    (seqS (ifS (tB (binM ltD (varM 1) (cM (.int 0)))) (setS 2 (unM negD (varM 2))) nxS)
    (retS (tupM (consA (binM fdivD (varM 0) (varM 2)) (consA (binM fdivD (varM 1) (varM 2)) nilA))))))
noncomputable def F_ratio : List D → M D := fnF 3 m_ratio
noncomputable def m_middle : PL.Env → M Out :=
    (retS (callM (lenM 2 F_ratio) (consA (binM addD (binM mulD (binM ixD (varM 0) (cM (.int 0))) (binM ixD (varM 1) (cM (.int 1)))) (binM mulD (binM ixD (varM 1) (cM (.int 0))) (binM ixD (varM 0) (cM (.int 1))))) (consA (binM mulD (binM mulD (cM (.int 2)) (binM ixD (varM 0) (cM (.int 1)))) (binM ixD (varM 1) (cM (.int 1)))) nilA))))
noncomputable def F_middle : List D → M D := fnF 2 m_middle
@[reducible] noncomputable def E_line_between_1 : PL.Env → M D :=
    (binM addD (binM mulD (varM 9) (varM 13)) (binM mulD (varM 10) (varM 14)))
@[reducible] noncomputable def B_line_between_2 : PL.Env → M Out :=
    (seqS (setS 11 (callM (fun2 min2D) (consA (binM addD (binM mulD (varM 9) (varM 4)) (binM mulD (varM 10) (varM 5))) (consA (binM addD (binM mulD (varM 9) (varM 6)) (binM mulD (varM 10) (varM 7))) nilA))))
    (seqS (setS 12 (callM (fun1 maxLD) (consA (compF (srcM (varM 2)) (gTupM 2 (gConsM (gNm 13) (gConsM (gNm 14) gNilM))) yesT E_line_between_1 [13, 14]) nilA)))
    (ifS (tB (binM ltD (binM mulD (varM 12) (varM 8)) (varM 11))) (retS (tupM (consA (tupM (consA (varM 9) (consA (varM 10) nilA))) (consA (callM (lenM 2 F_middle) (consA (tupM (consA (varM 12) (consA (cM (.int 1)) nilA))) (consA (callM (lenM 2 F_ratio) (consA (varM 11) (consA (varM 8) nilA))) nilA))) nilA)))) nxS)))
noncomputable def m_line_between : PL.Env → M Out :=
    (seqS (setS 3 (callM (lenM 2 F_segment) (consA (varM 0) (consA (varM 1) nilA))))
    (seqS (asgS (varM 3) (gTupM 5 (gConsM (gNm 4) (gConsM (gNm 5) (gConsM (gNm 6) (gConsM (gNm 7) (gConsM (gNm 8) gNilM)))))))
    (seqS (forS (srcM (callM (lenM 2 F_directions) (consA (varM 3) (consA (varM 2) nilA)))) (gTupM 2 (gConsM (gNm 9) (gConsM (gNm 10) gNilM))) B_line_between_2)
    (retS (cM .non)))))
noncomputable def F_line_between : List D → M D := fnF 15 m_line_between
@[reducible] noncomputable def B_part_in_1 : PL.Env → M Out :=
    (seqS (setS 15 (binM subD (binM addD (binM mulD (varM 12) (varM 3)) (binM mulD (varM 13) (varM 4))) (binM mulD (varM 14) (varM 7))))
    (seqS (setS 16 (binM subD (binM addD (binM mulD (varM 12) (varM 5)) (binM mulD (varM 13) (varM 6))) (binM mulD (varM 14) (varM 7))))
    (ifS (tB (binM ltD (varM 15) (varM 2))) (seqS (ifS (tB (binM ltD (varM 16) (varM 2))) (retS (cM .non)) nxS)
    (ifS (tB (binM gtD (binM mulD (unM negD (varM 15)) (varM 9)) (binM mulD (varM 8) (binM subD (varM 16) (varM 15))))) (parS 8 9 (unM negD (varM 15)) (binM subD (varM 16) (varM 15))) nxS)) (ifS (andT (tB (binM ltD (varM 16) (varM 2))) (tB (binM ltD (binM mulD (varM 15) (varM 11)) (binM mulD (varM 10) (binM subD (varM 15) (varM 16)))))) (parS 10 11 (varM 15) (binM subD (varM 15) (varM 16))) nxS))))
noncomputable def m_part_in : PL.Env → M Out :=
    (seqS (asgS (varM 0) (gTupM 5 (gConsM (gNm 3) (gConsM (gNm 4) (gConsM (gNm 5) (gConsM (gNm 6) (gConsM (gNm 7) gNilM)))))))
    (seqS (asgS (tupM (consA (cM (.int 0)) (consA (cM (.int 1)) nilA))) (gTupM 2 (gConsM (gNm 8) (gConsM (gNm 9) gNilM))))
    (seqS (asgS (tupM (consA (cM (.int 1)) (consA (cM (.int 1)) nilA))) (gTupM 2 (gConsM (gNm 10) (gConsM (gNm 11) gNilM))))
    (seqS (forS (srcM (varM 1)) (gTupM 3 (gConsM (gNm 12) (gConsM (gNm 13) (gConsM (gNm 14) gNilM)))) B_part_in_1)
    (seqS (ifS (tB (binM gtD (binM addD (binM mulD (varM 8) (varM 11)) (varM 2)) (binM mulD (varM 10) (varM 9)))) (retS (cM .non)) nxS)
    (retS (tupM (consA (tupM (consA (varM 8) (consA (varM 9) nilA))) (consA (tupM (consA (varM 10) (consA (varM 11) nilA))) nilA)))))))))
noncomputable def F_part_in : List D → M D := fnF 17 m_part_in
noncomputable def m_point_at : PL.Env → M Out :=
    (seqS (asgS (varM 0) (gTupM 5 (gConsM (gNm 2) (gConsM (gNm 3) (gConsM (gNm 4) (gConsM (gNm 5) (gConsM (gNm 6) gNilM)))))))
    (seqS (asgS (varM 1) (gTupM 2 (gConsM (gNm 7) (gConsM (gNm 8) gNilM))))
    (retS (tupM (consA (callM (lenM 2 F_ratio) (consA (binM addD (binM mulD (varM 2) (binM subD (varM 8) (varM 7))) (binM mulD (varM 4) (varM 7))) (consA (binM mulD (varM 6) (varM 8)) nilA))) (consA (callM (lenM 2 F_ratio) (consA (binM addD (binM mulD (varM 3) (binM subD (varM 8) (varM 7))) (binM mulD (varM 5) (varM 7))) (consA (binM mulD (varM 6) (varM 8)) nilA))) nilA))))))
noncomputable def F_point_at : List D → M D := fnF 9 m_point_at
noncomputable def m_common_point : PL.Env → M Out :=
    (seqS (setS 3 (callM (lenM 2 F_segment) (consA (varM 0) (consA (varM 1) nilA))))
    (seqS (setS 4 (callM (lenM 3 F_part_in) (consA (varM 3) (consA (callM (lenM 1 F_planes_of) (consA (varM 2) nilA)) (consA (cM (.int 0)) nilA)))))
    (seqS (ifS (tB (unM isnD (varM 4))) (retS (cM .non)) nxS)
    (retS (callM (lenM 2 F_point_at) (consA (varM 3) (consA (binM ixD (varM 4) (cM (.int 0))) nilA)))))))
noncomputable def F_common_point : List D → M D := fnF 5 m_common_point
noncomputable def m_are_apart : PL.Env → M Out :=
    (retS (unM isnD (callM (lenM 3 F_part_in) (consA (callM (lenM 2 F_segment) (consA (varM 0) (consA (varM 1) nilA))) (consA (callM (lenM 1 F_planes_of) (consA (varM 2) nilA)) (consA (cM (.int 0)) nilA))))))
noncomputable def F_are_apart : List D → M D := fnF 3 m_are_apart
noncomputable def m__law_other : PL.Env → M Out :=
    (retS (orM (notM (unM (isiD "bool") (varM 0))) (binM neD (varM 0) (varM 1))))
noncomputable def F__law_other : List D → M D := fnF 2 m__law_other
noncomputable def m__law_product : PL.Env → M Out :=
    (retS (tupM (consA (binM addD (binM mulD (binM ixD (varM 0) (cM (.int 0))) (binM ixD (varM 1) (cM (.int 0)))) (binM mulD (binM ixD (varM 0) (cM (.int 1))) (binM ixD (varM 1) (cM (.int 1))))) (consA (binM ixD (varM 1) (cM (.int 2))) nilA))))
noncomputable def F__law_product : List D → M D := fnF 2 m__law_product
noncomputable def m__law_less : PL.Env → M Out :=
    (retS (binM ltD (binM mulD (binM ixD (varM 0) (cM (.int 0))) (binM ixD (varM 1) (cM (.int 1)))) (binM mulD (binM ixD (varM 1) (cM (.int 0))) (binM ixD (varM 0) (cM (.int 1))))))
noncomputable def F__law_less : List D → M D := fnF 2 m__law_less
@[reducible] noncomputable def E__law_lies_between_1 : PL.Env → M D :=
    (callM (lenM 2 F__law_less) (consA (callM (lenM 2 F__law_product) (consA (varM 0) (consA (tupM (consA (binM ixD (varM 5) (cM (.int 0))) (consA (binM ixD (varM 5) (cM (.int 1))) (consA (cM (.int 1)) nilA)))) nilA))) (consA (varM 1) nilA)))
noncomputable def m__law_lies_between : PL.Env → M Out :=
    (seqS (ifS (orT (tB (binM eqD (varM 0) (tupM (consA (cM (.int 0)) (consA (cM (.int 0)) nilA))))) (orT (notT (truM (callM (lenM 2 F__law_less) (consA (varM 1) (consA (callM (lenM 2 F__law_product) (consA (varM 0) (consA (varM 2) nilA))) nilA))))) (notT (truM (callM (lenM 2 F__law_less) (consA (varM 1) (consA (callM (lenM 2 F__law_product) (consA (varM 0) (consA (varM 3) nilA))) nilA))))))) (retS (cM (.bl false))) nxS)
    (retS (callM (fun1 allD) (consA (compF (srcM (varM 4)) (gNm 5) yesT E__law_lies_between_1 [5]) nilA))))
noncomputable def F__law_lies_between : List D → M D := fnF 6 m__law_lies_between
noncomputable def m_is_less : PL.Env → M Out :=
    (retS (binM ltD (binM mulD (binM ixD (varM 0) (cM (.int 0))) (binM ixD (varM 1) (cM (.int 1)))) (binM mulD (binM ixD (varM 1) (cM (.int 0))) (binM ixD (varM 0) (cM (.int 1))))))
noncomputable def F_is_less : List D → M D := fnF 2 m_is_less
@[reducible] noncomputable def B_is_line_between_1 : PL.Env → M Out :=
    (ifS (notT (truM (callM (lenM 2 F_is_less) (consA (varM 4) (consA (tupM (consA (binM addD (binM mulD (binM mulD (varM 5) (varM 7)) (varM 10)) (binM mulD (binM mulD (varM 6) (varM 9)) (varM 8))) (consA (binM mulD (varM 8) (varM 10)) nilA))) nilA))))) (retS (cM (.bl false))) nxS)
@[reducible] noncomputable def E_is_line_between_2 : PL.Env → M D :=
    (callM (lenM 2 F_is_less) (consA (tupM (consA (binM addD (binM mulD (varM 5) (varM 11)) (binM mulD (varM 6) (varM 12))) (consA (cM (.int 1)) nilA))) (consA (varM 4) nilA)))
noncomputable def m_is_line_between : PL.Env → M Out :=
    (seqS (asgS (varM 0) (gTupM 2 (gConsM (gTupM 2 (gConsM (gNm 5) (gConsM (gNm 6) gNilM))) (gConsM (gNm 4) gNilM))))
    (seqS (ifS (tB (binM eqD (tupM (consA (varM 5) (consA (varM 6) nilA))) (tupM (consA (cM (.int 0)) (consA (cM (.int 0)) nilA))))) (retS (cM (.bl false))) nxS)
    (seqS (forS (srcM (tupM (consA (varM 1) (consA (varM 2) nilA)))) (gTupM 2 (gConsM (gTupM 2 (gConsM (gNm 7) (gConsM (gNm 8) gNilM))) (gConsM (gTupM 2 (gConsM (gNm 9) (gConsM (gNm 10) gNilM))) gNilM))) B_is_line_between_1)
    (retS (callM (fun1 allD) (consA (compF (srcM (varM 3)) (gTupM 2 (gConsM (gNm 11) (gConsM (gNm 12) gNilM))) yesT E_is_line_between_2 [11, 12]) nilA))))))
noncomputable def F_is_line_between : List D → M D := fnF 13 m_is_line_between
@[reducible] noncomputable def B_law_1 : PL.Env → M Out :=
    (seqS (setS 3 (callM (lenM 3 F__law_piece) (consA (varM 1) (consA (tupM (consA (callM (lenM 2 F__law_next) (consA (varM 1) (consA (cM (.int 3)) nilA))) (consA (cM (.int 2)) nilA))) (consA (binM ixD (lstF (consA (cM (.int 2)) (consA (cM (.int 5)) nilA))) (callM (lenM 2 F__law_next) (consA (varM 1) (consA (cM (.int 2)) nilA)))) nilA)))))
    (seqS (setS 4 (callM (lenM 3 F__law_place) (consA (varM 1) (consA (cM (.int 8)) (consA (cM (.int 8)) nilA)))))
    (seqS (setS 5 (binM ixD (lstF (consA (varM 4) (consA (callM (lenM 3 F__law_place) (consA (varM 1) (consA (cM (.int 8)) (consA (cM (.int 8)) nilA)))) nilA))) (callM (fun1 intD) (consA (binM gtD (callM (lenM 2 F__law_next) (consA (varM 1) (consA (cM (.int 4)) nilA))) (cM (.int 0))) nilA))))
    (seqS (setS 6 (callM (lenM 1 F__law_scale) (consA (varM 4) nilA)))
    (seqS (setS 7 (callM (lenM 1 F__law_scale) (consA (varM 5) nilA)))
    (seqS (setS 8 (callM (lenM 3 F__law_apart) (consA (varM 6) (consA (varM 7) (consA (callM (lenM 1 F__law_corners) (consA (varM 3) nilA)) nilA)))))
    (seqS (setS 9 (callM (lenM 3 F_line_between) (consA (varM 4) (consA (varM 5) (consA (varM 3) nilA)))))
    (seqS (setS 10 (callM (lenM 3 F_common_point) (consA (varM 4) (consA (varM 5) (consA (varM 3) nilA)))))
    (seqS (ifS (orT (truM (callM (lenM 2 F__law_other) (consA (callM (lenM 3 F_are_apart) (consA (varM 4) (consA (varM 5) (consA (varM 3) nilA)))) (consA (varM 8) nilA)))) (orT (tB (binM eqD (unM isnD (varM 9)) (varM 8))) (tB (binM neD (unM isnD (varM 10)) (varM 8))))) (retS (cM (.bl false))) nxS)
    (seqS (ifS (truM (varM 8)) (ifS (orT (notT (truM (callM (lenM 5 F__law_lies_between) (consA (binM ixD (varM 9) (cM (.int 0))) (consA (binM ixD (varM 9) (cM (.int 1))) (consA (varM 6) (consA (varM 7) (consA (varM 3) nilA)))))))) (tB (binM notbD (callM (lenM 4 F_is_line_between) (consA (varM 9) (consA (varM 4) (consA (varM 5) (consA (varM 3) nilA))))) (cM (.bl true))))) (retS (cM (.bl false))) nxS) (ifS (orT (notT (truM (callM (lenM 2 F__law_in) (consA (callM (lenM 1 F__law_scale) (consA (varM 10) nilA)) (consA (callM (lenM 1 F__law_corners) (consA (varM 3) nilA)) nilA))))) (notT (truM (callM (lenM 3 F__law_on) (consA (callM (lenM 1 F__law_scale) (consA (varM 10) nilA)) (consA (varM 6) (consA (varM 7) nilA))))))) (retS (cM (.bl false))) nxS))
    (seqS (setS 11 (tupM (consA (binM subD (callM (lenM 2 F__law_next) (consA (varM 1) (consA (cM (.int 5)) nilA))) (cM (.int 2))) (consA (binM subD (callM (lenM 2 F__law_next) (consA (varM 1) (consA (cM (.int 5)) nilA))) (cM (.int 2))) nilA))))
    (seqS (setS 12 (callM (lenM 2 F__law_ratio) (consA (binM subD (callM (lenM 2 F__law_next) (consA (varM 1) (consA (cM (.int 41)) nilA))) (cM (.int 20))) (consA (binM addD (cM (.int 1)) (callM (lenM 2 F__law_next) (consA (varM 1) (consA (cM (.int 3)) nilA)))) nilA))))
    (seqS (ifS (andT (truM (varM 8)) (tB (binM eqD (callM (lenM 2 F__law_next) (consA (varM 1) (consA (cM (.int 2)) nilA))) (cM (.int 1))))) (seqS (setS 11 (binM ixD (lstF (consA (binM ixD (varM 9) (cM (.int 0))) (consA (varM 11) nilA))) (callM (lenM 2 F__law_next) (consA (varM 1) (consA (cM (.int 2)) nilA)))))
    (setS 12 (binM ixD (lstF (consA (binM ixD (varM 9) (cM (.int 1))) (consA (varM 12) nilA))) (callM (lenM 2 F__law_next) (consA (varM 1) (consA (cM (.int 2)) nilA)))))) nxS)
    (ifS (truM (callM (lenM 2 F__law_other) (consA (callM (lenM 4 F_is_line_between) (consA (tupM (consA (varM 11) (consA (varM 12) nilA))) (consA (varM 4) (consA (varM 5) (consA (varM 3) nilA))))) (consA (callM (lenM 5 F__law_lies_between) (consA (varM 11) (consA (varM 12) (consA (varM 6) (consA (varM 7) (consA (varM 3) nilA)))))) nilA)))) (retS (cM (.bl false))) nxS))))))))))))))
noncomputable def m_law : PL.Env → M Out :=
    (seqS (setS 1 (callM (lenM 1 F__law_pot) (consA (varM 0) nilA)))
    (seqS (forS (srcA rng1D (consA (cM (.int 4)) nilA)) (gNm 2) B_law_1)
    (retS (cM (.bl true)))))
noncomputable def F_law : List D → M D := fnF 13 m_law

/-! the law's draws -/
/-- the draws' state: the script's copy, the next place, what is left of a great number, the seed -/
structure Pot (c : Cell) : Prop where
  ok : ∃ (ns : List Int) (i : Nat) (big seed : Int), c = .lst [.vls (ns.map D.int), .int (i : Int), .int big, .int seed] ∧ 0 ≤ big ∧ 0 ≤ seed ∧ seed < 2147483647
theorem Pot.cl {c : Cell} (h : Pot c) (n : Nat) : CellCl n c := by
  obtain ⟨ns, i, big, seed, rfl, _⟩ := h.ok
  show ClL n [.vls (ns.map D.int), .int (i : Int), .int big, .int seed]
  simp only [clL_cons, cl_vls, cl_int, clL_int, clL_nil, and_self]
theorem run_pot (ns : List Int) (h63 : ns.length ≤ 63) : ∃ c, F__law_pot [.flst (ns.map D.int)] [] = .ok (.ptr 0) [c] ∧ Pot c := by
  obtain ⟨env', s', e1, seed, x, rfl, rfl, h0, h1⟩ := loop_fold (r := ⟨ns.map D.int, none⟩) (g := gNm 2) (b := B__law_pot_1) (enc := D.int) (step := fun (_ : Unit) (_ : Int) => ()) (fun _ env s => ∃ (seed : Int) (x : Option D), env = [some (.flst (ns.map D.int)), some (.int seed), x] ∧ s = [] ∧ 0 ≤ seed ∧ seed < 2147483647)
    (fun _ _ _ _ => trivial) ns () [some (.flst (ns.map D.int)), some (.int 1), none] [] ⟨1, none, rfl, rfl, by decide, by decide⟩ (by
    rintro z _ _ env s ⟨seed, x, rfl, rfl, h0, h1⟩
    have hm : MulOk seed 31 := mulOk_r (by decide) (by decide)
    refine ⟨_, _, ?_, (seed * 31 + z) % 2147483647, some (.int z), rfl, rfl, Int.emod_nonneg _ (by decide), Int.emod_lt_of_pos _ (by decide)⟩
    simp! only [B__law_pot_1, mulD_int hm, modD_pos (show (0 : Int) < 2147483647 by decide)])
  refine ⟨.lst [.vls (ns.map D.int), .int ((0 : Nat) : Int), .int 0, .int seed], ?_, ⟨⟨ns, 0, 0, seed, rfl, by decide, h0, h1⟩⟩⟩
  unfold F__law_pot m__law_pot
  simp! only [e1]
  all_goals rfl
def nextV (c : Cell) (l : Int) : Int := match c with
  | .lst [.vls ns, .int i, .int big, .int seed] =>
    if big = 0 ∧ i < (ns.length : Int) then (match ns[i.toNat]? with
      | some (.int z) => (if z < 0 then -z else z) % l
      | _ => 0)
    else if 0 < big then big % l else ((((seed * 48271 + 12345) % 2147483647) * 69621 + ((seed * 48271 + 12345) % 2147483647) / 127) % 2147483629) % l
  | _ => 0
def nextC (c : Cell) (l : Int) : Cell := match c with
  | .lst [.vls ns, .int i, .int big, .int seed] =>
    if big = 0 ∧ i < (ns.length : Int) then (match ns[i.toNat]? with
      | some (.int z) => .lst [.vls ns, .int (i + 1), .int (if (if z < 0 then -z else z) < 1000000000000000000 then 0 else (if z < 0 then -z else z) / l), .int seed]
      | _ => c)
    else if 0 < big then .lst [.vls ns, .int i, .int (big / l), .int seed] else .lst [.vls ns, .int i, .int big, .int ((seed * 48271 + 12345) % 2147483647)]
  | _ => c
theorem next_ok {c : Cell} {l : Int} (h : Pot c) (hl : 0 < l) : (0 ≤ nextV c l ∧ nextV c l < l) ∧ Pot (nextC c l) := by
  obtain ⟨ns, i, big, seed, rfl, hbig, hs0, hs1⟩ := h.ok
  unfold nextV nextC
  simp only [List.length_map, Int.toNat_natCast, List.getElem?_map]
  have em : ∀ x : Int, 0 ≤ x % l ∧ x % l < l := fun x => ⟨Int.emod_nonneg _ (by omega), Int.emod_lt_of_pos _ hl⟩
  by_cases h1 : big = 0 ∧ (i : Int) < (ns.length : Int)
  · rw [if_pos h1, if_pos h1, List.getElem?_eq_getElem (show i < ns.length by omega)]
    simp only [Option.map_some]
    obtain ⟨z, ez⟩ : ∃ z : Int, z = if ns[i] < 0 then -ns[i] else ns[i] := ⟨_, rfl⟩
    rw [← ez]
    have hz : 0 ≤ z := by rw [ez]; split <;> omega
    refine ⟨em _, ⟨⟨ns, i + 1, if z < 1000000000000000000 then 0 else z / l, seed, by rw [Int.natCast_add]; rfl, ?_, hs0, hs1⟩⟩⟩
    by_cases h3 : z < 1000000000000000000
    · rw [if_pos h3]; exact Int.le_refl _
    · rw [if_neg h3]; exact Int.ediv_nonneg hz (by omega)
  · rw [if_neg h1, if_neg h1]
    by_cases h2 : 0 < big
    · rw [if_pos h2, if_pos h2]
      exact ⟨em _, ⟨⟨ns, i, _, seed, rfl, Int.ediv_nonneg hbig (by omega), hs0, hs1⟩⟩⟩
    · rw [if_neg h2, if_neg h2]
      exact ⟨em _, ⟨⟨ns, i, big, _, rfl, hbig, Int.emod_nonneg _ (by decide), Int.emod_lt_of_pos _ (by decide)⟩⟩⟩
theorem run_next {c : Cell} {r : S} {l : Int} (h : Pot c) (hl : 0 < l) (hb : l ≤ 1000000) : F__law_next [.ptr 0, .int l] (c :: r) = .ok (.int (nextV c l)) (nextC c l :: r) := by
  have hP := (next_ok h hl).2
  have hcl := hP.cl (r.length + 1)
  have hb9 : Bt 9000 l := Bt.mono (m := 20) (show l.natAbs < 2 ^ 20 by omega) (by decide)
  obtain ⟨ns, i, big, seed, rfl, hbig, hs0, hs1⟩ := h.ok
  have e10 : ∀ s : S, powD (.int 10) (.int 18) s = .ok (.int 1000000000000000000) s := fun s => by
    rw [powD_ok (by decide)]
    rfl
  have hm : ∀ (a : Int), 0 ≤ a → a < 2147483647 → ∀ b : Int, MulOk a b := fun a h0 h1 b => mulOk_l (by omega) (by omega)
  have hat0 : ∀ {ds : List D}, (Cell.lst ds :: r)[0]? = some (.lst ds) := rfl
  have st1 : ∀ (a b c d v : D), setLD (.ptr 0) (.int 1) v (Cell.lst [a, b, c, d] :: r) = .ok () (Cell.lst [a, v, c, d] :: r) := fun a b c d v => setLD_nat (ds := [a, b, c, d]) (j := 1) rfl (by show 1 < 4; decide) _
  have st2 : ∀ (a b c d v : D), setLD (.ptr 0) (.int 2) v (Cell.lst [a, b, c, d] :: r) = .ok () (Cell.lst [a, b, v, d] :: r) := fun a b c d v => setLD_nat (ds := [a, b, c, d]) (j := 2) rfl (by show 2 < 4; decide) _
  have st3 : ∀ (a b c d v : D), setLD (.ptr 0) (.int 3) v (Cell.lst [a, b, c, d] :: r) = .ok () (Cell.lst [a, b, c, v] :: r) := fun a b c d v => setLD_nat (ds := [a, b, c, d]) (j := 3) rfl (by show 3 < 4; decide) _
  have modp : ∀ (a : Int) (s : S), modD (.int a) (.int l) s = .ok (.int (a % l)) s := fun a s => modD_pos hl
  have key : (m__law_next (startE 5 [.ptr 0, .int l]) (Cell.lst [.vls (ns.map D.int), .int (i : Int), .int big, .int seed] :: r)).on (fun o s1 => outM o s1) = .ok (.int (nextV (Cell.lst [.vls (ns.map D.int), .int (i : Int), .int big, .int seed]) l)) (nextC (Cell.lst [.vls (ns.map D.int), .int (i : Int), .int big, .int seed]) l :: r) := by
    clear hP hcl
    unfold nextV nextC
    simp only [List.length_map, Int.toNat_natCast, List.getElem?_map]
    by_cases h1 : big = 0
    · subst h1
      by_cases h2 : (i : Int) < (ns.length : Int)
      · have hi : i < ns.length := by omega
        have hat : atI (ns.map D.int) (i : Int) = some (.int ns[i]) := PL.atI_nat (by rw [List.getElem?_map, List.getElem?_eq_getElem hi]; rfl)
        rw [if_pos ⟨rfl, h2⟩, if_pos ⟨rfl, h2⟩, List.getElem?_eq_getElem hi]
        simp only [Option.map_some]
        obtain ⟨z, ez⟩ : ∃ z : Int, z = if ns[i] < 0 then -ns[i] else ns[i] := ⟨_, rfl⟩
        rw [← ez]
        have hz : 0 ≤ z := by rw [ez]; split <;> omega
        by_cases h3 : z < 1000000000000000000
        · rw [if_pos h3]
          unfold m__law_next
          simp! only [ixD_lst hat0, lenD_vls, h2, decide_true, List.length_map, hat, st1, e10, ← ez, h3, modp]
        · rw [if_neg h3]
          have hzp : 0 < z := by omega
          unfold m__law_next
          simp! only [ixD_lst hat0, lenD_vls, h2, decide_true, decide_false, List.length_map, hat, st1, e10, ← ez, h3, st2, hzp, modp, fdivD_pos hl hb9]
      · have n1 : ¬ ((0 : Int) = 0 ∧ (i : Int) < (ns.length : Int)) := fun h => h2 h.2
        have n2 : ¬ (0 : Int) < 0 := by decide
        rw [if_neg n1, if_neg n1, if_neg n2, if_neg n2]
        have hm1 : MulOk seed 48271 := hm seed hs0 hs1 _
        obtain ⟨sd, es⟩ : ∃ x : Int, x = (seed * 48271 + 12345) % 2147483647 := ⟨_, rfl⟩
        have hd0 : 0 ≤ sd := by rw [es]; exact Int.emod_nonneg _ (by decide)
        have hd1 : sd < 2147483647 := by rw [es]; exact Int.emod_lt_of_pos _ (by decide)
        have h127 : Bt 9000 127 := Bt.mono (m := 7) (show (127 : Nat) < 2 ^ 7 by decide) (by decide)
        rw [← es]
        unfold m__law_next
        simp! only [ixD_lst hat0, lenD_vls, h2, decide_true, decide_false, List.length_map, show decide ((0 : Int) < 0) = false from rfl, mulD_int hm1, modD_pos (show (0 : Int) < 2147483647 by decide), st3, ← es, mulD_int (hm sd hd0 hd1 _), fdivD_pos (show (0 : Int) < 127 by decide) h127, modD_pos (show (0 : Int) < 2147483629 by decide), modp]
    · have hbp : 0 < big := by omega
      have n1 : ¬ (big = 0 ∧ (i : Int) < (ns.length : Int)) := fun h => h1 h.1
      rw [if_neg n1, if_neg n1, if_pos hbp, if_pos hbp]
      unfold m__law_next
      simp! only [ixD_lst hat0, lenD_vls, h1, hbp, decide_true, decide_false, modp, fdivD_pos hl hb9, st2]
  unfold F__law_next
  rw [fnF_run, key]
  exact cut_hd0 hcl (.int _)

/-! the law's hull -/
open GM (P2 area Lt hullQ wrapQ wrapP nextP bestP better farP)
structure B60 (p : P2) : Prop where
  x : -1000000000000 ≤ p.1 ∧ p.1 ≤ 1000000000000
  y : -1000000000000 ≤ p.2 ∧ p.2 ≤ 1000000000000
theorem mo_c {x y : Int} (hx : -4000000000000 ≤ x ∧ x ≤ 4000000000000) : MulOk x y := mulOk_l (by omega) (by omega)
section
variable {s : S}
theorem run_area {a b c : P2} (ha : B60 a) (hb : B60 b) : F__law_area [pD a, pD b, pD c] s = .ok (.int (area a b c)) s := by
  have h1 := ha.x
  have h2 := ha.y
  have h3 := hb.x
  have h4 := hb.y
  unfold F__law_area m__law_area
  simp! only [ix_p0, ix_p1, mulD_int (mo_c (x := b.1 - a.1) (y := c.2 - a.2) (by omega)), mulD_int (mo_c (x := b.2 - a.2) (y := c.1 - a.1) (by omega))]
  rfl
theorem pow2 {x : Int} {s : S} (h : -4000000000000 ≤ x ∧ x ≤ 4000000000000) : powD (.int x) (.int 2) s = .ok (.int (x ^ 2)) s := by
  rw [powD_ok ⟨by decide, by omega⟩]
  rfl
theorem run_hin {now best c : P2} {x0 x1 x2 x3 x6 x7 x8 : Option D} (hn : B60 now) (hb : B60 best) (hc : B60 c) :
    ((gNm 6 (pD c) [x0, x1, x2, x3, some (pD now), some (pD best), x6, x7, x8] s).on fun e s2 => B__law_hull_2 e s2) = .ok (.nx [x0, x1, x2, x3, some (pD now), some (pD (if better now best c = true then c else best)), some (pD c), some (.int (area now best c)), some (.int (farP c now))]) s := by
  have a1 := hn.x
  have a2 := hn.y
  have a3 := hb.x
  have a4 := hb.y
  have a5 := hc.x
  have a6 := hc.y
  have ea := fun s => run_area (s := s) (c := c) hn hb
  unfold GM.better
  simp! only [B__law_hull_2, ea, ix_p0, ix_p1, pow2 (x := c.1 - now.1) (by omega), pow2 (x := c.2 - now.2) (by omega), pow2 (x := best.1 - now.1) (by omega), pow2 (x := best.2 - now.2) (by omega), ne_pD]
  unfold GM.farP
  cases (!decide (c = now) && (decide (area now best c < 0) || decide (area now best c = 0) && decide ((best.1 - now.1) ^ 2 + (best.2 - now.2) ^ 2 < (c.1 - now.1) ^ 2 + (c.2 - now.2) ^ 2))) <;> simp! only []
theorem best_in {now : P2} : ∀ {l : List P2} {b : P2}, B60 b → (∀ c ∈ l, B60 c) → B60 (bestP now l b)
  | [], b, h, _ => h
  | c :: l, b, h, hl => by
    show B60 (bestP now l (if better now b c = true then c else b))
    refine best_in ?_ fun x hx => hl x (List.mem_cons_of_mem _ hx)
    split
    · exact hl c List.mem_cons_self
    · exact h
theorem nth_at {l : List P2} {k : Nat} (h : k < l.length) : atI (l.map pD) (k : Int) = some (pD (GM.nth l k)) := by
  refine PL.atI_nat ?_
  rw [List.getElem?_map, List.getElem?_eq_getElem h]
  unfold GM.nth
  rw [List.getD_eq_getElem?_getD, List.getElem?_eq_getElem h]
  rfl
theorem nth_in {l : List P2} {k : Nat} (h : k < l.length) : GM.nth l k ∈ l := GM.nth_mem h
theorem next_in {order : List P2} {now : P2} (h2 : 2 ≤ order.length) (bo : ∀ c ∈ order, B60 c) : B60 (nextP order now) := by
  unfold GM.nextP
  refine best_in ?_ bo
  split
  · exact bo _ (nth_in (by omega))
  · exact bo _ (nth_in (by omega))
/-- one turn of the outer loop -/
def hstep (order found : List P2) : Except D (List P2) := if nextP order (GM.nth found (found.length - 1)) = GM.nth found 0 then .error (.tup (found.map pD)) else .ok (found ++ [nextP order (GM.nth found (found.length - 1))])
def HSt (s : S) (order : List P2) (x0 : Option D) (i : Nat) (found : List P2) (env : PL.Env) (s' : S) : Prop := ∃ x3 x4 x5 x6 x7 x8, env = [x0, some (.vls (order.map pD)), some (.ptr s.length), x3, x4, x5, x6, x7, x8] ∧ s' = s ++ [.lst (found.map pD)] ∧ 0 < found.length ∧ found.length ≤ i + 1 ∧ ∀ c ∈ found, B60 c
theorem run_hout {order found : List P2} {x0 x3 x4 x5 x6 x7 x8 : Option D} {d : D} (h2 : 2 ≤ order.length) (hoz : order.length ≤ 100000) (hf : 0 < found.length) (hfz : found.length ≤ 100000) (bo : ∀ c ∈ order, B60 c) (bf : ∀ c ∈ found, B60 c) :
    ∃ o s', ((gNm 3 d [x0, some (.vls (order.map pD)), some (.ptr s.length), x3, x4, x5, x6, x7, x8] (s ++ [.lst (found.map pD)])).on fun e s2 => B__law_hull_3 e s2) = .ok o s' ∧
      ((nextP order (GM.nth found (found.length - 1)) = GM.nth found 0 ∧ o = .rt (.tup (found.map pD)) ∧ s' = s ++ [.lst (found.map pD)]) ∨
       (nextP order (GM.nth found (found.length - 1)) ≠ GM.nth found 0 ∧ ∃ y4 y5 y6 y7 y8, o = .nx [x0, some (.vls (order.map pD)), some (.ptr s.length), some d, y4, y5, y6, y7, y8] ∧ s' = s ++ [.lst ((found ++ [nextP order (GM.nth found (found.length - 1))]).map pD)])) := by
  obtain ⟨now, en⟩ : ∃ now, now = GM.nth found (found.length - 1) := ⟨_, rfl⟩
  have bn : B60 now := by rw [en]; exact bf _ (nth_in (by omega))
  obtain ⟨st, es⟩ : ∃ st, st = (if !decide (GM.nth order 0 = now) then GM.nth order 0 else GM.nth order 1) := ⟨_, rfl⟩
  have bs : B60 st := by
    rw [es]
    split
    · exact bo _ (nth_in (by omega))
    · exact bo _ (nth_in (by omega))
  have hat : (s ++ [Cell.lst (found.map pD)])[s.length]? = some (.lst (found.map pD)) := new_at
  obtain ⟨env', s', el, y6, y7, y8, rfl, rfl, hbb⟩ := loop_fold (r := ⟨order.map pD, none⟩) (g := gNm 6) (b := B__law_hull_2) (enc := pD) (step := fun best c => if better now best c = true then c else best)
    (fun best env s' => ∃ y6 y7 y8, env = [x0, some (.vls (order.map pD)), some (.ptr s.length), some d, some (pD now), some (pD best), y6, y7, y8] ∧ s' = s ++ [Cell.lst (found.map pD)] ∧ B60 best) (fun _ _ _ _ => trivial) order st [x0, some (.vls (order.map pD)), some (.ptr s.length), some d, some (pD now), some (pD st), x6, x7, x8] (s ++ [Cell.lst (found.map pD)]) ⟨x6, x7, x8, rfl, rfl, bs⟩ (by
      rintro c hc best env s' ⟨y6, y7, y8, rfl, rfl, hb⟩
      refine ⟨_, _, run_hin bn hb (bo c hc), _, _, _, rfl, rfl, ?_⟩
      split
      · exact bo c hc
      · exact hb)
  have enx : order.foldl (fun best c => if better now best c = true then c else best) st = nextP order now := by
    rw [es]
    rfl
  rw [enx] at el
  rw [← en]
  obtain ⟨nb, enb⟩ : ∃ nb, nb = nextP order now := ⟨_, rfl⟩
  rw [← enb] at el ⊢
  have i1 : ((found.length : Int) - 1) = ((found.length - 1 : Nat) : Int) := by omega
  have atn : atI (found.map pD) ((found.length - 1 : Nat) : Int) = some (pD now) := by rw [en]; exact nth_at (by omega)
  have at0' : atI (found.map pD) 0 = some (pD (GM.nth found 0)) := nth_at hf
  have ato0 : atI (order.map pD) 0 = some (pD (GM.nth order 0)) := nth_at (k := 0) (l := order) (show 0 < order.length from by omega)
  have ato1 : atI (order.map pD) 1 = some (pD (GM.nth order 1)) := nth_at (k := 1) (l := order) (show 1 < order.length from by omega)
  have sel : ∀ s : S, (if (!decide (GM.nth order 0 = now)) = true then R.ok (pD (GM.nth order 0)) s else R.ok (pD (GM.nth order 1)) s : R D) = R.ok (pD st) s := fun s => by
    rw [es]
    split <;> rfl
  by_cases hq : nb = GM.nth found 0
  · refine ⟨_, _, ?_, .inl ⟨hq, rfl, rfl⟩⟩
    simp! only [B__law_hull_3, ixD_lst hat, lenD_lst hat, List.length_map, i1, atn, at0', ato0, ato1, ne_pD, eq_pD, sel, el, hq, eq_self, decide_true, tupleD_lst hat]
  · refine ⟨_, _, ?_, .inr ⟨hq, some (pD now), some (pD nb), y6, y7, y8, rfl, rfl⟩⟩
    have ap := append_run (s := s ++ [Cell.lst (found.map pD)]) (mo := varM 2) (ma := consA (varM 5) nilA) (env := [x0, some (.vls (order.map pD)), some (.ptr s.length), some d, some (pD now), some (pD nb), y6, y7, y8]) (k := s.length) (d := pD nb) (by simp! only []) hat (by simp! only []) hat (by rw [List.length_map]; omega)
    simp! only [B__law_hull_3, ixD_lst hat, lenD_lst hat, List.length_map, i1, atn, at0', ato0, ato1, ne_pD, eq_pD, sel, el, hq, decide_false]
    rw [ap, set_new]
    simp! only [List.map_append]
theorem sd_run {d : D} {ds : List D} {ps : List P2} (e : seqD s d = some ds) (h : dPrs ds = some ps) : sdD d s = .ok (.vls ((sortU ps).map pD)) s := by
  unfold sdD
  simp only [e, h]
theorem dPrs_pairs {b : D} : ∀ ps : List P2, dPrs (ps.map fun p => .tup [pD p, b]) = some ps
  | [] => rfl
  | p :: ps => by
    unfold dPrs
    rw [List.map_cons]
    unfold mapO
    have ih := dPrs_pairs (b := b) ps
    unfold dPrs at ih
    rw [ih]
    rfl
theorem insU_len (p : P2) : ∀ l : List P2, (insU p l).length ≤ l.length + 1
  | [] => Nat.le_refl _
  | q :: r => by
    unfold insU
    split
    · exact Nat.le_refl _
    · split
      · exact Nat.le_succ _
      · have := insU_len p r
        rw [List.length_cons, List.length_cons]
        omega
theorem sortU_len : ∀ l : List P2, (sortU l).length ≤ l.length
  | [] => Nat.le_refl _
  | p :: r => Nat.le_trans (insU_len p _) (Nat.succ_le_succ (sortU_len r))
theorem sortU_pos {l : List P2} (h : 0 < l.length) : 0 < (sortU l).length := by
  cases l with
  | nil => exact absurd h (by decide)
  | cons p r =>
    have : p ∈ sortU (p :: r) := (sortU_mem p _).mpr List.mem_cons_self
    exact List.length_pos_of_mem this
theorem wrap_fold {order : List P2} : ∀ (l : List Nat) (found : List P2), (∃ x, foldE (fun f (_ : Nat) => hstep order f) found l = .ok x ∧ wrapP order l.length found = x) ∨ (∃ x, foldE (fun f (_ : Nat) => hstep order f) found l = .error (.tup (x.map pD)) ∧ wrapP order l.length found = x)
  | [], found => .inl ⟨found, rfl, rfl⟩
  | k :: l, found => by
    have e : wrapP order (k :: l).length found = if nextP order (GM.nth found (found.length - 1)) = GM.nth found 0 then found else wrapP order l.length (found ++ [nextP order (GM.nth found (found.length - 1))]) := rfl
    rw [e]
    by_cases hq : nextP order (GM.nth found (found.length - 1)) = GM.nth found 0
    · refine .inr ⟨found, ?_, if_pos hq⟩
      unfold foldE hstep
      rw [if_pos hq]
    · rw [if_neg hq]
      have ih := wrap_fold (order := order) l (found ++ [nextP order (GM.nth found (found.length - 1))])
      have e2 : foldE (fun f (_ : Nat) => hstep order f) found (k :: l) = foldE (fun f (_ : Nat) => hstep order f) (found ++ [nextP order (GM.nth found (found.length - 1))]) l := by
        conv => lhs; unfold foldE
        unfold hstep
        rw [if_neg hq]
      rw [e2]
      exact ih
def hullP (ps : List P2) : List P2 := wrapQ (sortU ps)
theorem run_hullS {ps : List P2} {d0 : D} {src : Src} (hs : srcD d0 s = .ok src s) (hok : src.Ok s) (hi : src.items = ps.map pD) (h0 : 0 < ps.length) (hz : ps.length ≤ 50000) (hb : ∀ c ∈ ps, B60 c) : F__law_hull [d0] s = .ok (.tup ((hullP ps).map pD)) s := by
  have hcoll : collM src (gNm 6) yesT E__law_hull_1 [some d0, none, none, none, none, none, none, none, none] src.items s = .ok (ps.map fun p => .tup [pD p, .bl true]) s := by
    rw [hi]
    refine coll_enc hok fun p _ => ?_
    unfold turnC
    simp! only [E__law_hull_1]
  have sz : szM src.items.length s = .ok () s := by
    rw [hi, List.length_map]
    exact szM_run (by omega)
  obtain ⟨order, eo⟩ : ∃ order, order = sortU ps := ⟨_, rfl⟩
  have ol : order.length ≤ 50000 := by
    rw [eo]
    exact Nat.le_trans (sortU_len ps) hz
  have op : 0 < order.length := by
    rw [eo]
    exact sortU_pos h0
  have bo : ∀ c ∈ order, B60 c := fun c hc => hb c (by
    rw [eo] at hc
    exact (sortU_mem c ps).mp hc)
  have esd : ∀ s : S, sdD (.vls (ps.map fun p => .tup [pD p, .bl true])) s = .ok (.vls (order.map pD)) s := fun s => by
    rw [eo]
    exact sd_run rfl (dPrs_pairs ps)
  have ato0 : atI (order.map pD) 0 = some (pD (GM.nth order 0)) := nth_at (k := 0) (l := order) op
  unfold hullP GM.wrapQ
  rw [← eo]
  by_cases h1 : order.length = 1
  · rw [if_pos h1]
    have i1 : ((order.length : Int) = 1) := by omega
    unfold F__law_hull m__law_hull
    simp! only [compF_run, hs, sz, wipeE, hcoll, esd, List.length_map, i1, eq_self, decide_true]
  · have h2 : 2 ≤ order.length := by omega
    rw [if_neg h1]
    have bn0 := bo _ (nth_in op)
    obtain ⟨o, s', el, c⟩ := loop_retI (r := ⟨(List.range order.length).map fun (i : Nat) => D.int (i : Int), none⟩) (g := gNm 3) (b := B__law_hull_3) (enc := fun (i : Nat) => D.int (i : Int)) (step := fun f (_ : Nat) => hstep order f) (HSt s order (some d0)) (fun d s' => ∃ g, s' = s ++ g) (fun _ _ _ _ _ => trivial) (List.range order.length) 0 [GM.nth order 0]
      [some d0, some (.vls (order.map pD)), some (.ptr s.length), none, none, none, none, none, none] (s ++ [.lst ([GM.nth order 0].map pD)]) ⟨none, none, none, none, none, none, rfl, rfl, by show 0 < 1; decide, by show 1 ≤ 0 + 1; decide, fun c hc => by rw [List.mem_singleton.mp hc]; exact bn0⟩ (by
        rintro j k hk found env s' ⟨x3, x4, x5, x6, x7, x8, rfl, rfl, hf, hfz, bf⟩
        have hj : j < order.length := by
          have := (List.getElem?_eq_some_iff.mp hk).1
          rw [List.length_range] at this
          exact this
        obtain ⟨o, s', e, c⟩ := run_hout (s := s) (x0 := some d0) (x3 := x3) (x4 := x4) (x5 := x5) (x6 := x6) (x7 := x7) (x8 := x8) (d := .int (k : Int)) h2 (by omega) hf (by omega) bo bf
        refine ⟨o, s', e, ?_⟩
        rcases c with ⟨hq, rfl, rfl⟩ | ⟨hq, y4, y5, y6, y7, y8, rfl, rfl⟩
        · refine .inr ⟨_, ?_, rfl, _, rfl⟩
          unfold hstep
          rw [if_pos hq]
        · refine .inl ⟨found ++ [nextP order (GM.nth found (found.length - 1))], _, ?_, rfl, some (.int (k : Int)), y4, y5, y6, y7, y8, rfl, rfl, by simp, ?_, ?_⟩
          · unfold hstep
            rw [if_neg hq]
          · rw [List.length_append, List.length_singleton]
            omega
          · intro c hc
            rcases List.mem_append.mp hc with hc | hc
            · exact bf c hc
            · rw [List.mem_singleton.mp hc]
              exact next_in h2 bo)
    have i1 : ¬ ((order.length : Int) = 1) := by omega
    have rr : ∀ s : S, rng1D [.int (order.length : Int)] s = .ok ⟨(List.range order.length).map fun (i : Nat) => D.int (i : Int), none⟩ s := fun s => rng1_nat (by omega)
    have wf := wrap_fold (order := order) (List.range order.length) [GM.nth order 0]
    rw [List.length_range] at wf
    rcases c with ⟨st', env', h1', rfl, x3, x4, x5, x6, x7, x8, rfl, rfl, hf, hfz, bf⟩ | ⟨d, h1', rfl, g, rfl⟩
    · have ew : wrapP order order.length [GM.nth order 0] = st' := by
        rcases wf with ⟨x, e1, e2⟩ | ⟨x, e1, e2⟩
        · rw [h1'] at e1
          cases e1
          exact e2
        · rw [h1'] at e1
          cases e1
      rw [ew]
      have ht : (s ++ [Cell.lst (st'.map pD)])[s.length]? = some (.lst (st'.map pD)) := new_at
      unfold F__law_hull m__law_hull
      simp only [List.map_cons, List.map_nil] at el
      simp! only [compF_run, hs, sz, wipeE, hcoll, esd, List.length_map, i1, decide_false, ato0, lstK_le, Nat.reduceLeDiff, rr, el, tupleD_lst ht]
    · have ew : d = .tup ((wrapP order order.length [GM.nth order 0]).map pD) := by
        rcases wf with ⟨x, e1, e2⟩ | ⟨x, e1, e2⟩
        · rw [h1'] at e1
          cases e1
        · rw [h1'] at e1
          cases e1
          rw [e2]
      subst ew
      unfold F__law_hull m__law_hull
      simp only [List.map_cons, List.map_nil] at el
      simp! only [compF_run, hs, sz, wipeE, hcoll, esd, List.length_map, i1, decide_false, ato0, lstK_le, Nat.reduceLeDiff, rr, el]
theorem run_hull {ps : List P2} (h0 : 0 < ps.length) (hz : ps.length ≤ 50000) (hb : ∀ c ∈ ps, B60 c) : F__law_hull [.vls (ps.map pD)] s = .ok (.tup ((hullP ps).map pD)) s := run_hullS (src := ⟨ps.map pD, none⟩) rfl trivial rfl h0 hz hb
theorem run_hullC {ps : List P2} {k : Nat} (e : s[k]? = some (.lst (ps.map pD))) (h0 : 0 < ps.length) (hz : ps.length ≤ 50000) (hb : ∀ c ∈ ps, B60 c) : F__law_hull [.ptr k] s = .ok (.tup ((hullP ps).map pD)) s := run_hullS (src := ⟨ps.map pD, some (k, ps.map pD)⟩) (srcD_lst e) e rfl h0 hz hb
end

/-! the law's hull is a hull -/
open GM (P2 area Lt hullQ wrapQ wrapP nextP bestP better farP)
theorem sortU_lt (ps : List P2) : (sortU ps).Pairwise Lt := (sortU_sorted ps).imp fun h => Lx.iff.mp h
theorem sortU_ne {ps : List P2} (h : 0 < ps.length) : sortU ps ≠ [] := fun e => by
  have := sortU_pos h
  rw [e] at this
  exact absurd this (by decide)
/-- the hull of some corners -/
theorem hullP_is {ps : List P2} (h : 0 < ps.length) : GM.IsHull (sortU ps) (hullP ps) := by
  unfold hullP
  rw [GM.wrap_hull (sortU_lt ps) (sortU_ne h)]
  exact GM.hullQ_is (sortU_lt ps) (sortU_ne h)
theorem hullP_eq {ps : List P2} (h : 0 < ps.length) : hullP ps = hullQ (sortU ps) := GM.wrap_hull (sortU_lt ps) (sortU_ne h)
theorem hullP_len {l : List P2} (h0 : 0 < l.length) : (hullP l).length ≤ l.length := by
  have h := hullP_is h0
  exact GM.len_le h.nd fun x hx => (sortU_mem x l).mp (h.sub x hx)
/-- what is_piece takes -/
theorem self_hull {ps : List P2} (h0 : 0 < ps.length) : hullP (hullP ps) = hullP ps := by
  have h := hullP_is h0
  have hp := h.pos
  rw [hullP_eq hp]
  exact GM.hull_uniq (sortU_lt _) (sortU_ne hp) (h.sub_pts (fun p hp => (h.sub p ((sortU_mem p _).mp hp))) fun p hp => (sortU_mem p _).mpr hp)
/-- the same corners in another list -/
theorem hull_same {a b : List P2} (h : ∀ x, x ∈ a ↔ x ∈ b) : hullP a = hullP b := by
  unfold hullP
  rw [lx_uniq (sortU_sorted a) (sortU_sorted b) fun x => by rw [sortU_mem, sortU_mem]; exact h x]
theorem not_hull {l H : List P2} (hH : hullP H = H) (h : ∀ x, x ∈ l ↔ x ∈ H) (n : l ≠ H) : decide (hullP l = l) = false := by
  refine decide_eq_false fun e => n ?_
  rw [← e, hull_same h, hH]

/-! the law's own geometry: points with one divisor, as triples -/
abbrev T3 := Int × Int × Int
abbrev t3 (p : T3) : D := .tup [.int p.1, .int p.2.1, .int p.2.2]
structure B3 (p : T3) : Prop where
  x : Bt 40000 p.1
  y : Bt 40000 p.2.1
  z : Bt 40000 p.2.2
def dt (a b c : T3) : Int := (b.1 * a.2.2 - a.1 * b.2.2) * (c.2.1 * a.2.2 - a.2.1 * c.2.2) - (b.2.1 * a.2.2 - a.2.1 * b.2.2) * (c.1 * a.2.2 - a.1 * c.2.2)
def mid (a b c : Int) : Bool := (decide (a ≤ b) && decide (b ≤ c)) || (decide (c ≤ b) && decide (b ≤ a))
def onS (p a b : T3) : Bool := decide (sgn (dt a b p) = 0) && (mid (a.1 * b.2.2 * p.2.2) (p.1 * (a.2.2 * b.2.2)) (b.1 * a.2.2 * p.2.2) && mid (a.2.1 * b.2.2 * p.2.2) (p.2.1 * (a.2.2 * b.2.2)) (b.2.1 * a.2.2 * p.2.2))
def gT (cs : List T3) (k : Nat) : T3 := cs.getD k (0, 0, 0)
def triS (p : T3) (cs : List T3) (k : Nat) : Bool := !(decide (sgn (dt (gT cs 0) (gT cs k) p) < 0) || (decide (sgn (dt (gT cs k) (gT cs (k + 1)) p) < 0) || decide (sgn (dt (gT cs (k + 1)) (gT cs 0) p) < 0)))
def inS (p : T3) (cs : List T3) : Bool := if cs.length < 3 then onS p (gT cs 0) (gT cs (cs.length - 1)) else (List.range (cs.length - 2)).any fun i => triS p cs (i + 1)
section
variable {s : S}
theorem run_det {a b c : T3} {s : S} (ha : B3 a) (hb : B3 b) (hc : B3 c) : F__law_det [t3 a, t3 b, t3 c] s = .ok (.int (sgn (dt a b c))) s := by
  have m : ∀ {x y : Int}, Bt 40000 x → Bt 40000 y → MulOk x y := fun h k => mk2 h k (by decide) (by decide)
  have s1 := (hb.x.mul ha.z).sub (ha.x.mul hb.z)
  have s2 := (hc.y.mul ha.z).sub (ha.y.mul hc.z)
  have s3 := (hb.y.mul ha.z).sub (ha.y.mul hb.z)
  have s4 := (hc.x.mul ha.z).sub (ha.x.mul hc.z)
  unfold F__law_det m__law_det
  simp! only [mulD_int (m hb.x ha.z), mulD_int (m ha.x hb.z), mulD_int (m hc.y ha.z), mulD_int (m ha.y hc.z), mulD_int (m hb.y ha.z), mulD_int (m ha.y hb.z), mulD_int (m hc.x ha.z), mulD_int (m ha.x hc.z),
    mulD_int (mk2 s1 s2 (by decide) (by decide)), mulD_int (mk2 s3 s4 (by decide) (by decide)), sgn_int]
  rfl
theorem run_mid {a b c : Int} {s : S} : F__law_mid [.int a, .int b, .int c] s = .ok (.bl (mid a b c)) s := by
  unfold F__law_mid m__law_mid
  simp! only []
  rfl
theorem all2b {b0 b1 : Bool} {s : S} : allD (.vls [.bl b0, .bl b1]) s = .ok (.bl (b0 && b1)) s := by
  have h := all_vls (s := s) (bs := [b0, b1])
  rw [show ([b0, b1].all id) = (b0 && b1) by cases b0 <;> cases b1 <;> rfl] at h
  exact h
theorem any3b {b0 b1 b2 : Bool} {s : S} : anyD (.vls [.bl b0, .bl b1, .bl b2]) s = .ok (.bl (b0 || (b1 || b2))) s := by
  have h := any_vls (s := s) (bs := [b0, b1, b2])
  rw [show ([b0, b1, b2].any id) = (b0 || (b1 || b2)) by cases b0 <;> cases b1 <;> cases b2 <;> rfl] at h
  exact h
theorem rngB2 {s : S} : rng1D [.int 2] s = .ok ⟨[.int 0, .int 1], none⟩ s := rng1_run (show -4000000000 ≤ (2 : Int) ∧ (2 : Int) ≤ 4000000000 by decide)
theorem szB2 {s : S} : szM 2 s = .ok () s := szM_run (by decide)
theorem szB3 {s : S} : szM 3 s = .ok () s := szM_run (by decide)
theorem run_on_ {p a b : T3} {s : S} (hp : B3 p) (ha : B3 a) (hb : B3 b) : F__law_on [t3 p, t3 a, t3 b] s = .ok (.bl (onS p a b)) s := by
  have m : ∀ {x y : Int}, Bt 40000 x → Bt 40000 y → MulOk x y := fun h k => mk2 h k (by decide) (by decide)
  have d := fun s => run_det (s := s) ha hb hp
  unfold F__law_on m__law_on onS
  by_cases h : sgn (dt a b p) = 0
  · rw [h] at d
    simp! only [d, h, eq_self, decide_true, mulD_int (m ha.z hb.z), compF_run, rngB2, szB2, coll_cons, coll_nil, wipeE, E__law_on_1, mulD_int (m ha.x hb.z), mulD_int (mk2 (ha.x.mul hb.z) hp.z (by decide) (by decide)), mulD_int (mk2 hp.x (ha.z.mul hb.z) (by decide) (by decide)), mulD_int (m hb.x ha.z), mulD_int (mk2 (hb.x.mul ha.z) hp.z (by decide) (by decide)),
      mulD_int (m ha.y hb.z), mulD_int (mk2 (ha.y.mul hb.z) hp.z (by decide) (by decide)), mulD_int (mk2 hp.y (ha.z.mul hb.z) (by decide) (by decide)), mulD_int (m hb.y ha.z), mulD_int (mk2 (hb.y.mul ha.z) hp.z (by decide) (by decide)), run_mid, all2b]
  · simp! only [d, h, decide_false]
theorem gT_at {cs : List T3} {k : Nat} (h : k < cs.length) : atI (cs.map t3) (k : Int) = some (t3 (gT cs k)) := by
  refine PL.atI_nat ?_
  rw [List.getElem?_map, List.getElem?_eq_getElem h]
  unfold gT
  rw [List.getD_eq_getElem?_getD, List.getElem?_eq_getElem h]
  rfl
theorem gT_mem {cs : List T3} {k : Nat} (h : k < cs.length) : gT cs k ∈ cs := by
  unfold gT
  rw [List.getD_eq_getElem?_getD, List.getElem?_eq_getElem h]
  exact List.getElem_mem h
theorem foldE_any {f : Nat → Bool} {d : D} : ∀ l : List Nat, foldE (fun (_ : Unit) i => if f i = true then Except.error d else .ok ()) () l = if l.any f = true then .error d else .ok ()
  | [] => rfl
  | i :: l => by
    unfold foldE
    rw [List.any_cons]
    by_cases h : f i = true
    · rw [if_pos h, h]
      rfl
    · have hf : f i = false := by
        cases e : f i with
        | true => exact absurd e h
        | false => rfl
      rw [if_neg h, hf, Bool.false_or]
      exact foldE_any l
theorem run_in {p : T3} {cs : List T3} {s : S} (h0 : 0 < cs.length) (hz : cs.length ≤ 100000) (hp : B3 p) (hc : ∀ c ∈ cs, B3 c) : F__law_in [t3 p, .vls (cs.map t3)] s = .ok (.bl (inS p cs)) s := by
  have bc : ∀ {j : Nat}, j < cs.length → B3 (gT cs j) := fun hj => hc _ (gT_mem hj)
  have at0' : atI (cs.map t3) 0 = some (t3 (gT cs 0)) := gT_at h0
  by_cases h3 : cs.length < 3
  · have e1 : ((cs.length : Int) < 3) := by omega
    have e2 : ((cs.length : Int) - 1) = ((cs.length - 1 : Nat) : Int) := by omega
    have eg := fun s => run_on_ (s := s) hp (bc h0) (bc (j := cs.length - 1) (by omega))
    unfold F__law_in m__law_in inS
    rw [if_pos h3]
    simp! only [List.length_map, e1, decide_true, at0', e2, gT_at (cs := cs) (k := cs.length - 1) (by omega), eg]
  · have e1 : ¬ ((cs.length : Int) < 3) := by omega
    obtain ⟨o, s', el, c⟩ := loop_ret (r := ⟨(List.range (cs.length - 2)).map fun (i : Nat) => D.int (1 + (i : Int)), none⟩) (g := gNm 2) (b := B__law_in_2) (enc := fun (i : Nat) => D.int (1 + (i : Int))) (step := fun (_ : Unit) i => if triS p cs (i + 1) = true then Except.error (.bl true) else .ok ())
      (fun _ env s' => ∃ x2 x3 x4, env = [some (t3 p), some (.vls (cs.map t3)), x2, x3, x4] ∧ s' = s) (fun d s' => s' = s) (fun _ _ _ _ => trivial) (List.range (cs.length - 2)) () [some (t3 p), some (.vls (cs.map t3)), none, none, none] s ⟨none, none, none, rfl, rfl⟩ (by
        rintro i hi _ env s' ⟨x2, x3, x4, rfl, rfl⟩
        have hi2 := List.mem_range.mp hi
        have ez : ((1 : Int) + (i : Int)) = ((i + 1 : Nat) : Int) := by omega
        have ez2 : (((i + 1 : Nat) : Int)) + 1 = ((i + 2 : Nat) : Int) := by omega
        have ez3 : i + 1 + 1 = i + 2 := rfl
        have l1 : i + 1 < cs.length := by omega
        have l2 : i + 2 < cs.length := by omega
        have d1 := fun s => run_det (s := s) (bc h0) (bc l1) hp
        have d2 := fun s => run_det (s := s) (bc l1) (bc l2) hp
        have d3 := fun s => run_det (s := s) (bc l2) (bc h0) hp
        have body : ((gNm 2 (D.int (1 + (i : Int))) [some (t3 p), some (.vls (cs.map t3)), x2, x3, x4] s').on fun e s2 => B__law_in_2 e s2) = (if triS p cs (i + 1) = true then R.ok (Out.rt (.bl true)) s' else R.ok (Out.nx [some (t3 p), some (.vls (cs.map t3)), some (.int (1 + (i : Int))), some (.vls [.int (sgn (dt (gT cs 0) (gT cs (i + 1)) p)), .int (sgn (dt (gT cs (i + 1)) (gT cs (i + 2)) p)), .int (sgn (dt (gT cs (i + 2)) (gT cs 0) p))]), x4]) s') := by
          unfold triS
          simp! only [B__law_in_2, E__law_in_1, ez, ez2, ez3, gT_at l1, gT_at l2, at0', d1, d2, d3, Nat.reduceLeDiff, compF_run, szB3, coll_cons, coll_nil, wipeE, any3b]
        rw [body]
        by_cases ht : triS p cs (i + 1) = true
        · rw [if_pos ht, if_pos ht]
          exact ⟨_, _, rfl, .inr ⟨_, rfl, rfl, rfl⟩⟩
        · rw [if_neg ht, if_neg ht]
          exact ⟨_, _, rfl, .inl ⟨(), _, rfl, rfl, _, _, _, rfl, rfl⟩⟩)
    have rr : ∀ s : S, rng2D [.int 1, .int ((cs.length : Int) - 1)] s = .ok ⟨(List.range (cs.length - 2)).map fun (i : Nat) => D.int (1 + (i : Int)), none⟩ s := fun s => by
      rw [rng2_run (by omega)]
      unfold rngItems
      rw [show ((cs.length : Int) - 1 - 1).toNat = cs.length - 2 by omega]
    rw [foldE_any] at c
    unfold F__law_in m__law_in inS
    rw [if_neg h3]
    cases ha : (List.range (cs.length - 2)).any fun i => triS p cs (i + 1) with
    | true =>
      rw [ha] at c
      rcases c with ⟨st', env', h1, _⟩ | ⟨d, h1, rfl, rfl⟩
      · cases h1
      · cases h1
        simp! only [List.length_map, e1, decide_false, rr, el]
    | false =>
      rw [ha] at c
      rcases c with ⟨st', env', h1, rfl, x2, x3, x4, rfl, rfl⟩ | ⟨d, h1, rfl, rfl⟩
      · simp! only [List.length_map, e1, decide_false, rr, el]
      · cases h1
theorem run_corners {ps : List (Int × Int)} {s : S} (hz : ps.length ≤ 100000) : F__law_corners [.tup (ps.map pD)] s = .ok (.vls ((ps.map fun q => ((q.1, q.2, 1) : T3)).map t3)) s := by
  have hcoll : collM ⟨ps.map pD, none⟩ (gNm 1) yesT E__law_corners_1 [some (.tup (ps.map pD)), none] (ps.map pD) s = .ok (ps.map fun q => t3 (q.1, q.2, 1)) s := by
    refine coll_enc (r := ⟨ps.map pD, none⟩) trivial fun q _ => ?_
    unfold turnC
    simp! only [E__law_corners_1, ix_p0, ix_p1]
  have sz : szM (ps.map pD).length s = .ok () s := by
    rw [List.length_map]
    exact szM_run hz
  have hcl : ∀ n, ClL n (ps.map fun q => t3 (q.1, q.2, 1)) := fun n => clL_of fun d hd => by
    obtain ⟨q, _, rfl⟩ := List.mem_map.mp hd
    simp only [cl_tup, clL_cons, cl_int, clL_nil, and_self]
  rw [List.map_map]
  show _ = R.ok (D.vls (ps.map fun q => t3 (q.1, q.2, 1))) s
  unfold F__law_corners m__law_corners
  simp! only [compF_run, sz, wipeE, hcoll, hcl]
end

/-! the program's planes -/
open GM (P2 area Lt hullQ wrapQ wrapP nextP bestP better farP nth nxt IsHull Seg Bw Edge Fn)
section
variable {s : S}
abbrev Pt := (Int × Int) × (Int × Int)
abbrev ptD (p : Pt) : D := .tup [pD p.1, pD p.2]
abbrev S5 := Int × Int × Int × Int × Int
abbrev s5 (e : S5) : D := .tup [.int e.1, .int e.2.1, .int e.2.2.1, .int e.2.2.2.1, .int e.2.2.2.2]
structure B5 (e : S5) : Prop where
  a : Bt 3000 e.1
  b : Bt 3000 e.2.1
  c : Bt 3000 e.2.2.1
  d : Bt 3000 e.2.2.2.1
  w : Bt 3000 e.2.2.2.2
theorem bt_gcd {u v : Int} {n : Nat} (hu : Bt n u) (hv : Bt n v) : Bt n (GM.gcdZ u v) := by
  unfold GM.gcdZ Bt at *
  rw [Int.natAbs_natCast]
  by_cases h : u = 0
  · subst h
    rw [Int.natAbs_zero, Nat.gcd_zero_left]
    exact hv
  · exact Nat.lt_of_le_of_lt (Nat.gcd_le_left _ (by omega)) hu
theorem run_lowest {u v : Int} (h : u ≠ 0 ∨ v ≠ 0) (hu : Bt 2000 u) (hv : Bt 2000 v) : F_lowest [.int u, .int v] s = .ok (pD (GM.lowP u v)) s := by
  have hg := GM.gcdZ_pos h
  have hb : Bt 9000 (GM.gcdZ u v) := (bt_gcd hu hv).mono (by decide)
  have e : gcdD (.int u) (.int v) s = .ok (.int (GM.gcdZ u v)) s := gcdD_int u v
  unfold F_lowest m_lowest
  simp only [GM.lowP, pD]
  simp! only [e, fdivD_pos hg hb]
/-- a side, as a segment -/
abbrev sdS (q : P2 × P2) : S5 := (q.1.1, q.1.2, q.2.1, q.2.2, 1)
theorem zipI_map {α β : Type} {f : α → D} {g : β → D} : ∀ (l : List α) (m : List β), zipI (l.map f) (m.map g) = (l.zip m).map fun q => .tup [f q.1, g q.2]
  | [], m => by cases m <;> rfl
  | a :: l, [] => rfl
  | a :: l, b :: m => by
    have := zipI_map (f := f) (g := g) l m
    show D.tup [f a, g b] :: zipI (l.map f) (m.map g) = _
    rw [this]
    rfl
theorem run_sides {H : List P2} (hz : H.length ≤ 1000) : F_sides_of [.tup (H.map pD)] s = .ok (.vls ((GM.sidesQ H).map fun q => s5 (sdS q))) s := by
  have ct : addD (.tup ((H.map pD).drop 1)) (.tup ((H.map pD).take 1)) s = .ok (.tup ((H.drop 1 ++ H.take 1).map pD)) s := by
    rw [cat_tup (by rw [List.length_drop, List.length_take, List.length_map]; omega), List.map_append, List.map_drop, List.map_take]
  have hs : srcA zipD (consA (varM 0) (consA (binM addD (slM (varM 0) (inPt (cM (.int 1))) noP) (slM (varM 0) noP (inPt (cM (.int 1))))) nilA)) [some (.tup (H.map pD)), none, none] s = .ok ⟨(GM.sidesQ H).map fun q => .tup [pD q.1, pD q.2], none⟩ s := by
    simp! only [ct, zipD_tt, zipI_map]
    rfl
  have hc : compF (srcA zipD (consA (varM 0) (consA (binM addD (slM (varM 0) (inPt (cM (.int 1))) noP) (slM (varM 0) noP (inPt (cM (.int 1))))) nilA))) (gTupM 2 (gConsM (gNm 1) (gConsM (gNm 2) gNilM))) yesT E_sides_of_1 [1, 2] [some (.tup (H.map pD)), none, none] s = .ok (.vls ((GM.sidesQ H).map fun q => s5 (sdS q))) s := by
    have sz : szM ((GM.sidesQ H).map fun q => D.tup [pD q.1, pD q.2]).length s = .ok () s := szM_run (by rw [List.length_map, GM.sidesQ_len]; omega)
    have hcoll := coll_enc (s := s) (r := ⟨(GM.sidesQ H).map fun q => .tup [pD q.1, pD q.2], none⟩) (g := gTupM 2 (gConsM (gNm 1) (gConsM (gNm 2) gNilM))) (t := yesT) (e := E_sides_of_1) (env0 := [some (.tup (H.map pD)), none, none]) (enc := fun q => .tup [pD q.1, pD q.2]) (out := fun q => s5 (sdS q)) (l := GM.sidesQ H) trivial (fun q _ => by
      unfold turnC
      simp only [pD]
      simp! only [E_sides_of_1, cat_tup])
    rw [compF_run, hs, on_ok]
    simp only []
    rw [sz, on_ok]
    show (collM _ _ _ _ [some (.tup (H.map pD)), none, none] _ s).on _ = _
    rw [hcoll, on_ok]
  unfold F_sides_of m_sides_of
  have hcl : ∀ n, ClL n ((GM.sidesQ H).map fun q => s5 (sdS q)) := fun n => clL_of fun d hd => by
    obtain ⟨q, _, rfl⟩ := List.mem_map.mp hd
    simp only [cl_tup, clL_cons, cl_int, clL_nil, and_self]
  simp! only [hc, hcl]
/-! ### the dict of planes -/
def kT (f : Fn) : List L2.Key := [.inl f.1, .inl f.2.1, .inl f.2.2]
def kvT (f : Fn) : List L2.Key × D := (kT f, .bl true)
theorem kT_inj {f g : Fn} (h : kT f = kT g) : f = g := by
  unfold kT at h
  injection h with h1 h2
  injection h2 with h2 h3
  injection h3 with h3 _
  injection h1 with h1
  injection h2 with h2
  injection h3 with h3
  exact Prod.ext h1 (Prod.ext h2 h3)
theorem put_kvT (ps : List Fn) (f : Fn) : putTD (ps.map kvT) (kT f) (.bl true) = (GM.addU ps f).map kvT := by
  unfold putTD GM.addU
  by_cases h : f ∈ ps
  · rw [if_pos h, if_pos (List.any_eq_true.mpr ⟨kvT f, List.mem_map.mpr ⟨f, h, rfl⟩, decide_eq_true rfl⟩), List.map_map]
    refine List.map_congr_left fun g _ => ?_
    show (if kT g = kT f then (kT g, D.bl true) else kvT g) = kvT g
    split <;> rfl
  · rw [if_neg h, if_neg (fun k => h ?_), List.map_append]
    · rfl
    · obtain ⟨kv, hm, e⟩ := List.any_eq_true.mp k
      obtain ⟨g, hg, rfl⟩ := List.mem_map.mp hm
      rw [← kT_inj (of_decide_eq_true e)]
      exact hg
theorem merge_kvT : ∀ (l ps : List Fn), mergeTD (ps.map kvT) (l.map kvT) = (l.foldl GM.addU ps).map kvT
  | [], ps => rfl
  | f :: l, ps => by
    show mergeTD (putTD (ps.map kvT) (kT f) (.bl true)) (l.map kvT) = _
    rw [put_kvT, merge_kvT l]
    rfl
theorem list_kvT (ps : List Fn) : ((ps.map kvT).map fun kv => D.tup (kv.1.map keyD)) = ps.map t3 := by
  rw [List.map_map]
  rfl
theorem min_vls {l : List Int} (h : 0 < l.length) : minLD (.vls (l.map D.int)) s = .ok (.int (GM.lo l)) s := by
  cases l with
  | nil => simp at h
  | cons n l =>
    have e : ∀ l : List Int, dInts (l.map D.int) = some l := fun l => by
      induction l with
      | nil => rfl
      | cons a l ih => rw [List.map_cons]; unfold dInts; rw [ih]; rfl
    show (match seqD s (.vls ((n :: l).map D.int)) with
      | some ds => (match dInts ds, dPl ds with
        | some (n :: ns), _ => R.ok (D.int (minI n ns)) s
        | _, some (p :: ps) => .ok (pD (minP p ps)) s
        | _, _ => .stuck)
      | none => .stuck) = _
    show (match dInts ((n :: l).map D.int), dPl ((n :: l).map D.int) with
        | some (n :: ns), _ => R.ok (D.int (minI n ns)) s
        | _, some (p :: ps) => .ok (pD (minP p ps)) s
        | _, _ => .stuck) = _
    rw [e]
    rfl
theorem max_vls {l : List Int} (h : 0 < l.length) : maxLD (.vls (l.map D.int)) s = .ok (.int (GM.hi l)) s := by
  cases l with
  | nil => simp at h
  | cons n l =>
    have e : ∀ l : List Int, dInts (l.map D.int) = some l := fun l => by
      induction l with
      | nil => rfl
      | cons a l ih => rw [List.map_cons]; unfold dInts; rw [ih]; rfl
    show (match dInts ((n :: l).map D.int) with
        | some (n :: ns) => R.ok (D.int (maxI n ns)) s
        | _ => .stuck) = _
    rw [e]
    rfl
theorem xs_run {H : List P2} {x1 x2 x3 x4 x5 x6 x7 x8 x9 x10 x11 x12 : Option D} (hz : H.length ≤ 1000) : compF (srcM (varM 0)) (gTupM 2 (gConsM (gNm 9) (gConsM (gNm 8) gNilM))) yesT E_planes_of_1 [9, 8] [some (.tup (H.map pD)), x1, x2, x3, x4, x5, x6, x7, x8, x9, x10, x11, x12] s = .ok (.vls ((GM.xsQ H).map D.int)) s := by
  have := compF_enc (s := s) (g := gTupM 2 (gConsM (gNm 9) (gConsM (gNm 8) gNilM))) (t := yesT) (e := E_planes_of_1) (vs := [9, 8]) (env := [some (.tup (H.map pD)), x1, x2, x3, x4, x5, x6, x7, x8, x9, x10, x11, x12]) (enc := pD) (out := fun q => .int q.1) (l := H) (ma := varM 0) (d0 := .tup (H.map pD)) (by simp! only []) rfl (by omega) (fun q _ => by
    unfold turnC
    simp only [pD]
    simp! only [E_planes_of_1, wipeE])
  rw [this]
  unfold GM.xsQ
  rw [List.map_map]
  rfl
theorem ys_run {H : List P2} {x1 x2 x3 x4 x5 x6 x7 x8 x9 x10 x11 x12 : Option D} (hz : H.length ≤ 1000) : compF (srcM (varM 0)) (gTupM 2 (gConsM (gNm 8) (gConsM (gNm 10) gNilM))) yesT E_planes_of_2 [8, 10] [some (.tup (H.map pD)), x1, x2, x3, x4, x5, x6, x7, x8, x9, x10, x11, x12] s = .ok (.vls ((GM.ysQ H).map D.int)) s := by
  have := compF_enc (s := s) (g := gTupM 2 (gConsM (gNm 8) (gConsM (gNm 10) gNilM))) (t := yesT) (e := E_planes_of_2) (vs := [8, 10]) (env := [some (.tup (H.map pD)), x1, x2, x3, x4, x5, x6, x7, x8, x9, x10, x11, x12]) (enc := pD) (out := fun q => .int q.2) (l := H) (ma := varM 0) (d0 := .tup (H.map pD)) (by simp! only []) rfl (by omega) (fun q _ => by
    unfold turnC
    simp only [pD]
    simp! only [E_planes_of_2, wipeE])
  rw [this]
  unfold GM.ysQ
  rw [List.map_map]
  rfl
structure B20 (q : P2) : Prop where
  x : Bt 1000 q.1
  y : Bt 1000 q.2
theorem B60.b20 {q : P2} (h : B60 q) : B20 q := by
  have b : ∀ x : Int, -1000000000000 ≤ x → x ≤ 1000000000000 → Bt 1000 x := fun x h0 h1 => Bt.mono (m := 60) (show x.natAbs < 2 ^ 60 by omega) (by decide)
  exact ⟨b _ h.x.1 h.x.2, b _ h.y.1 h.y.2⟩
theorem foldU_len {α : Type} {k : α → Fn} : ∀ (l : List α) (ps : List Fn), (l.foldl (fun ps q => GM.addU ps (k q)) ps).length ≤ ps.length + l.length
  | [], ps => Nat.le_refl _
  | a :: l, ps => by
    have h1 := foldU_len (k := k) l (GM.addU ps (k a))
    have h2 := GM.addU_len ps (k a)
    rw [List.foldl_cons, List.length_cons]
    omega
theorem planes_len (H : List P2) : (GM.planesP H).length ≤ 4 + H.length := by
  unfold GM.planesP
  have h1 := foldU_len (k := GM.sideF) (if 1 < H.length then GM.sidesQ H else []) ((GM.boxF H).foldl GM.addU [])
  have h2 := foldU_len (k := fun f => f) (GM.boxF H) []
  have h3 : (GM.boxF H).length = 4 := rfl
  have h4 : (if 1 < H.length then GM.sidesQ H else []).length ≤ H.length := by
    split
    · rw [GM.sidesQ_len]
      exact Nat.le_refl _
    · exact Nat.zero_le _
  have h5 : ((GM.boxF H).foldl GM.addU []).length ≤ 4 := h2
  omega
theorem planes_cl (H : List P2) (n : Nat) : ClL n ((GM.planesP H).map t3) = True := eq_true (clL_of fun d hd => by
  obtain ⟨q, _, rfl⟩ := List.mem_map.mp hd
  simp only [cl_tup, clL_cons, cl_int, clL_nil, and_self])
theorem run_planes {H : List P2} (h0 : 0 < H.length) (hz : H.length ≤ 1000) (hne : 1 < H.length → ∀ q ∈ GM.sidesQ H, q.1 ≠ q.2) (hb : ∀ q ∈ H, B20 q) : F_planes_of [.tup (H.map pD)] s = .ok (.vls ((GM.planesP H).map t3)) s := by
  have mx := min_vls (s := s ++ [.dT []]) (l := GM.xsQ H) (by rw [GM.xs_len]; exact h0)
  have Mx := max_vls (s := s ++ [.dT []]) (l := GM.xsQ H) (by rw [GM.xs_len]; exact h0)
  have my := min_vls (s := s ++ [.dT []]) (l := GM.ysQ H) (by rw [GM.ys_len]; exact h0)
  have My := max_vls (s := s ++ [.dT []]) (l := GM.ysQ H) (by rw [GM.ys_len]; exact h0)
  have hm : mergeTD [] [([.inl 1, .inl 0, .inl (GM.lo (GM.xsQ H))], D.bl true), ([.inl (-1), .inl 0, .inl (-GM.hi (GM.xsQ H))], .bl true), ([.inl 0, .inl 1, .inl (GM.lo (GM.ysQ H))], .bl true), ([.inl 0, .inl (-1), .inl (-GM.hi (GM.ysQ H))], .bl true)] = ((GM.boxF H).foldl GM.addU []).map kvT := merge_kvT (GM.boxF H) []
  obtain ⟨ps0, e0⟩ : ∃ ps0, ps0 = (GM.boxF H).foldl GM.addU [] := ⟨_, rfl⟩
  have l0 : ps0.length ≤ 4 := by
    rw [e0]
    exact foldU_len (k := fun f => f) (GM.boxF H) []
  by_cases h1 : 1 < H.length
  · have g1 : decide ((1 : Int) < (H.length : Int)) = true := decide_eq_true (by omega)
    have rs := run_sides (s := s ++ [.dT (ps0.map kvT)]) (H := H) hz
    have mem : ∀ q ∈ GM.sidesQ H, q.1 ∈ H ∧ q.2 ∈ H := fun q hq => by
      obtain ⟨i, hi, rfl⟩ := GM.sidesQ_mem.mp hq
      exact ⟨GM.nth_mem hi, GM.nth_mem (GM.nxt_lt hi)⟩
    obtain ⟨env', s', el, ps, x4, x5, x6, x7, x8, x11, x12, rfl, rfl, hps, hl⟩ := loop_foldI (r := ⟨(GM.sidesQ H).map fun q => s5 (sdS q), none⟩) (g := gTupM 5 (gConsM (gNm 4) (gConsM (gNm 5) (gConsM (gNm 6) (gConsM (gNm 7) (gConsM (gNm 8) gNilM)))))) (b := B_planes_of_3) (enc := fun q => s5 (sdS q)) (step := fun ps q => GM.addU ps (GM.sideF q))
      (fun i ps env s' => ∃ (qs : List Fn) (x4 x5 x6 x7 x8 x11 x12 : Option D), env = [some (.tup (H.map pD)), some (.vls ((GM.xsQ H).map D.int)), some (.vls ((GM.ysQ H).map D.int)), some (.ptr s.length), x4, x5, x6, x7, x8, none, none, x11, x12] ∧ s' = s ++ [.dT (qs.map kvT)] ∧ qs = ps ∧ qs.length ≤ 4 + i) (fun _ _ _ _ _ => trivial) (GM.sidesQ H) 0 ps0 [some (.tup (H.map pD)), some (.vls ((GM.xsQ H).map D.int)), some (.vls ((GM.ysQ H).map D.int)), some (.ptr s.length), none, none, none, none, none, none, none, none, none] (s ++ [.dT (ps0.map kvT)]) ⟨ps0, none, none, none, none, none, none, none, rfl, rfl, rfl, l0⟩ (by
        rintro j q hq _ env s' ⟨qs, x4, x5, x6, x7, x8, x11, x12, rfl, rfl, rfl, hl⟩
        have hqm := List.mem_of_getElem? hq
        have hj := (List.getElem?_eq_some_iff.mp hq).1
        rw [GM.sidesQ_len] at hj
        obtain ⟨m1, m2⟩ := mem q hqm
        have b1 := hb _ m1
        have b2 := hb _ m2
        have ne : q.1.2 - q.2.2 ≠ 0 ∨ q.2.1 - q.1.1 ≠ 0 := by
          have := hne h1 q hqm
          by_cases k : q.1.1 = q.2.1
          · left
            intro z
            exact this (Prod.ext k (by omega))
          · right
            omega
        have bu := (b1.y.sub b2.y).mono (n := 2000) (by decide)
        have bv := (b2.x.sub b1.x).mono (n := 2000) (by decide)
        have rl := run_lowest (s := s ++ [.dT (qs.map kvT)]) ne bu bv
        simp only [pD] at rl
        have hg := GM.gcdZ_pos ne
        obtain ⟨m1', m2'⟩ := GM.gcdZ_mul ne
        have low : ∀ {x y g : Int}, 0 < g → g * y = x → Bt 2000 x → Bt 2000 y := fun {x y g} hg e h => h.le (by
          rw [← e, Int.natAbs_mul]
          exact Nat.le_mul_of_pos_left _ (by omega))
        have k1 : MulOk (GM.lowP (q.1.2 - q.2.2) (q.2.1 - q.1.1)).1 q.1.1 := mk2 (low hg m1' bu) b1.x (by decide) (by decide)
        have k2 : MulOk (GM.lowP (q.1.2 - q.2.2) (q.2.1 - q.1.1)).2 q.1.2 := mk2 (low hg m2' bv) b1.y (by decide) (by decide)
        have pk := put_kvT qs (GM.sideF q)
        unfold kT at pk
        simp only [GM.sideF] at pk
        refine ⟨_, _, ?_, GM.addU qs (GM.sideF q), some (.int q.1.1), some (.int q.1.2), some (.int q.2.1), some (.int q.2.2), some (.int 1), some (.int (GM.lowP (q.1.2 - q.2.2) (q.2.1 - q.1.1)).1), some (.int (GM.lowP (q.1.2 - q.2.2) (q.2.1 - q.1.1)).2), rfl, rfl, rfl, ?_⟩
        · simp! only [B_planes_of_3, gTup5, rl, mulD_int k1, mulD_int k2, gSubT_run, keyM_run, keyK3, setTD_run, new_at, setTK_le (kvs := qs.map kvT) (by rw [List.length_map]; omega), set_new, pk]
          rfl
        · have := GM.addU_len qs (GM.sideF q)
          omega)
    unfold F_planes_of m_planes_of
    simp! only [xs_run hz, ys_run hz, dispTM_run, tCons_run, tNil_run, keyM_run, keyK3, mx, Mx, my, My, new_at, fillK_le, set_new, hm, ← e0, List.length_map, g1, rs, el, listT_run, listTK_t, list_kvT]
    have ep : GM.planesP H = ps := by
      unfold GM.planesP
      rw [if_pos h1, ← e0, hps]
    rw [← ep]
    exact cut_eqA (by rw [cl_vls, planes_cl]; trivial)
  · have g1 : decide ((1 : Int) < (H.length : Int)) = false := decide_eq_false (by omega)
    unfold F_planes_of m_planes_of
    simp! only [xs_run hz, ys_run hz, dispTM_run, tCons_run, tNil_run, keyM_run, keyK3, mx, Mx, my, My, new_at, fillK_le, set_new, hm, ← e0, List.length_map, g1, listT_run, listTK_t, list_kvT]
    have ep : GM.planesP H = ps0 := by
      unfold GM.planesP
      rw [if_neg h1, ← e0]
      rfl
    rw [← ep]
    exact cut_eqA (by rw [cl_vls, planes_cl]; trivial)
end

/-! the program's segments, and how much of them lies in half planes -/
open GM (P2 area Lt hullQ wrapQ wrapP nextP bestP better farP nth nxt IsHull Seg Bw Edge Fn Q2 Cs stepC clipC)
section
variable {s : S}
structure BP (p : Pt) : Prop where
  xn : Bt 500 p.1.1
  xd : Bt 500 p.1.2
  yn : Bt 500 p.2.1
  yd : Bt 500 p.2.2
  x0 : 0 < p.1.2
  y0 : 0 < p.2.2
def lcmQ (a b : Pt) : Int := ((lcm4 a.1.2 a.2.2 b.1.2 b.2.2 : Nat) : Int)
def segQ (a b : Pt) : S5 := (a.1.1 * (lcmQ a b / a.1.2), a.2.1 * (lcmQ a b / a.2.2), b.1.1 * (lcmQ a b / b.1.2), b.2.1 * (lcmQ a b / b.2.2), lcmQ a b)
theorem lcm4_pos {a b c d : Int} (ha : 0 < a) (hb : 0 < b) (hc : 0 < c) (hd : 0 < d) : 0 < lcm4 a b c d := by
  unfold lcm4
  refine Nat.lcm_pos (Nat.lcm_pos (Nat.lcm_pos (Nat.lcm_pos ?_ ?_) ?_) ?_) ?_ <;> omega
theorem lcm4_dvd {a b c d : Int} : a ∣ (lcm4 a b c d : Int) ∧ b ∣ (lcm4 a b c d : Int) ∧ c ∣ (lcm4 a b c d : Int) ∧ d ∣ (lcm4 a b c d : Int) := by
  have up : ∀ {x : Int} {n : Nat}, x.natAbs ∣ n → x ∣ (n : Int) := fun {x n} h => Int.natAbs_dvd_natAbs.mp (by rw [Int.natAbs_natCast]; exact h)
  unfold lcm4
  refine ⟨up ?_, up ?_, up ?_, up ?_⟩
  · exact Nat.dvd_trans (Nat.dvd_trans (Nat.dvd_trans (Nat.dvd_lcm_right _ _) (Nat.dvd_lcm_left _ _)) (Nat.dvd_lcm_left _ _)) (Nat.dvd_lcm_left _ _)
  · exact Nat.dvd_trans (Nat.dvd_trans (Nat.dvd_lcm_right _ _) (Nat.dvd_lcm_left _ _)) (Nat.dvd_lcm_left _ _)
  · exact Nat.dvd_trans (Nat.dvd_lcm_right _ _) (Nat.dvd_lcm_left _ _)
  · exact Nat.dvd_lcm_right _ _
theorem lcm4_bt {a b c d : Int} {n : Nat} (ha : Bt n a) (hb : Bt n b) (hc : Bt n c) (hd : Bt n d) : Bt (n + n + n + n) ((lcm4 a b c d : Nat) : Int) := by
  have mul : ∀ {x y m n : Nat}, x < 2 ^ m → y < 2 ^ n → x.lcm y < 2 ^ (m + n) := fun {x y m n} hx hy => by
    refine Nat.lt_of_le_of_lt (PySem.W.mc_lcm_le x y) ?_
    rw [Nat.pow_add]
    by_cases h0 : x = 0
    · rw [h0, Nat.zero_mul]
      exact Nat.mul_pos (Nat.pow_pos (by decide)) (Nat.pow_pos (by decide))
    · exact Nat.mul_lt_mul'' hx hy
  unfold Bt at *
  rw [Int.natAbs_natCast]
  exact mul (mul (mul (by rw [PySem.W.mc_lcm_one]; exact ha) hb) hc) hd
theorem div_bt {w d : Int} {n : Nat} (hw : Bt n w) (hd : 0 < d) : Bt n (w / d) := by
  refine hw.le ?_
  have h1 := Int.mul_ediv_add_emod w d
  have h2 := Int.emod_nonneg w (show d ≠ 0 by omega)
  have h3 := Int.emod_lt_of_pos w hd
  rcases Int.lt_or_le w 0 with z | z
  · have : w / d < 0 := Int.ediv_neg_of_neg_of_pos z hd
    have k : w ≤ w / d := (Int.le_ediv_iff_mul_le hd).mpr (by
      have := Int.mul_le_mul_of_nonpos_left (show w ≤ 0 by omega) (show (1 : Int) ≤ d by omega)
      omega)
    omega
  · have k0 := Int.ediv_nonneg z (Int.le_of_lt hd)
    have k : w / d ≤ w := Int.ediv_le_self d z
    omega
theorem run_seg {a b : Pt} (ha : BP a) (hb : BP b) : F_segment [ptD a, ptD b] s = .ok (s5 (segQ a b)) s := by
  have up : ∀ {x : Int}, Bt 500 x → Bt 1000 x := fun h => h.mono (by decide)
  have up9 : ∀ {x : Int}, Bt 500 x → Bt 9000 x := fun h => h.mono (by decide)
  have e := lcm4D_run (s := s) (up ha.xd) (up ha.yd) (up hb.xd) (up hb.yd)
  have hw : Bt 2000 (lcmQ a b) := lcm4_bt ha.xd ha.yd hb.xd hb.yd
  have mk : ∀ {x d : Int}, Bt 500 x → 0 < d → MulOk x (lcmQ a b / d) := fun h k => mk2 h (div_bt hw k) (by decide) (by decide)
  have e : lcm4D [.int a.1.2, .int a.2.2, .int b.1.2, .int b.2.2] s = .ok (.int (lcmQ a b)) s := e
  unfold F_segment m_segment
  simp only [segQ, ptD, pD]
  simp! only [e, fdivD_pos ha.x0 (up9 ha.xd), fdivD_pos ha.y0 (up9 ha.yd), fdivD_pos hb.x0 (up9 hb.xd), fdivD_pos hb.y0 (up9 hb.yd), mulD_int (mk ha.xn ha.x0), mulD_int (mk ha.yn ha.y0), mulD_int (mk hb.xn hb.x0), mulD_int (mk hb.yn hb.y0), tupK_le]
theorem seg_b5 {a b : Pt} (ha : BP a) (hb : BP b) : B5 (segQ a b) := by
  have hw : Bt 2000 (lcmQ a b) := lcm4_bt ha.xd ha.yd hb.xd hb.yd
  have mk : ∀ {x d : Int}, Bt 500 x → 0 < d → Bt 3000 (x * (lcmQ a b / d)) := fun h k => (h.mul (div_bt hw k)).mono (by decide)
  exact ⟨mk ha.xn ha.x0, mk ha.yn ha.y0, mk hb.xn hb.x0, mk hb.yn hb.y0, hw.mono (by decide)⟩
/-! ### the clip -/
def vq (e : S5) (f : Fn) : Q2 := (f.1 * e.1 + f.2.1 * e.2.1 - f.2.2 * e.2.2.2.2, f.1 * e.2.2.1 + f.2.1 * e.2.2.2.1 - f.2.2 * e.2.2.2.2)
structure BF (f : Fn) : Prop where
  u : Bt 3100 f.1
  v : Bt 3100 f.2.1
  c : Bt 3100 f.2.2
structure BC (c : Cs) : Prop where
  l : Bt 7000 c.l
  u : Bt 7000 c.u
  h : Bt 7000 c.h
  o : Bt 7000 c.o
theorem vq_bt {e : S5} {f : Fn} (he : B5 e) (hf : BF f) : Bt 6102 (vq e f).1 ∧ Bt 6102 (vq e f).2 := by
  have a1 := (hf.u.mul he.a).add (hf.v.mul he.b)
  have a2 := (hf.u.mul he.c).add (hf.v.mul he.d)
  have a3 := (hf.c.mul he.w).mono (n := 6101) (by decide)
  exact ⟨a1.sub a3, a2.sub a3⟩
def stepE (dep : Int) (e : S5) (st : Cs) (f : Fn) : Except D Cs := match stepC dep st (vq e f) with
  | none => .error .non
  | some st' => .ok st'
def endC (dep : Int) : Except D Cs → Option Cs
  | .error _ => none
  | .ok c => if c.l * c.o + dep > c.h * c.u then none else some c
theorem clip_fold {dep : Int} {e : S5} : ∀ (l : List Fn) (st : Cs), clipC dep st (l.map (vq e)) = endC dep (foldE (stepE dep e) st l)
  | [], st => rfl
  | f :: l, st => by
    rw [List.map_cons]
    unfold clipC foldE stepE
    cases stepC dep st (vq e f) with
    | none => rfl
    | some c => exact clip_fold l c
theorem step_bc {dep : Int} {e : S5} {f : Fn} {c c' : Cs} (he : B5 e) (hf : BF f) (hc : BC c) (h : stepC dep c (vq e f) = some c') : BC c' := by
  obtain ⟨b1, b2⟩ := vq_bt he hf
  have u1 : Bt 7000 (-(vq e f).1) := b1.neg.mono (by decide)
  have u2 : Bt 7000 (vq e f).1 := b1.mono (by decide)
  have u3 : Bt 7000 ((vq e f).2 - (vq e f).1) := (b2.sub b1).mono (by decide)
  have u4 : Bt 7000 ((vq e f).1 - (vq e f).2) := (b1.sub b2).mono (by decide)
  unfold stepC at h
  split at h
  · split at h
    · cases h
    · split at h
      · cases h
        exact ⟨u1, u3, hc.h, hc.o⟩
      · cases h
        exact hc
  · split at h
    · cases h
      exact ⟨hc.l, hc.u, u2, u4⟩
    · cases h
      exact hc
def partD : Option Cs → D
  | none => .non
  | some c => .tup [.tup [.int c.l, .int c.u], .tup [.int c.h, .int c.o]]
def envP (e : S5) (ps : List Fn) (dep : Int) (c : Cs) (x12 x13 x14 x15 x16 : Option D) : PL.Env := [some (s5 e), some (.vls (ps.map t3)), some (.int dep), some (.int e.1), some (.int e.2.1), some (.int e.2.2.1), some (.int e.2.2.2.1), some (.int e.2.2.2.2), some (.int c.l), some (.int c.u), some (.int c.h), some (.int c.o), x12, x13, x14, x15, x16]
theorem part_turn {e : S5} {ps : List Fn} {dep : Int} {f : Fn} {c : Cs} {x12 x13 x14 x15 x16 : Option D} (he : B5 e) (bf : BF f) (hc : BC c) :
    ((gTupM 3 (gConsM (gNm 12) (gConsM (gNm 13) (gConsM (gNm 14) gNilM))) (t3 f) (envP e ps dep c x12 x13 x14 x15 x16) s).on fun e s2 => B_part_in_1 e s2) = match stepC dep c (vq e f) with
      | none => .ok (.rt .non) s
      | some c' => .ok (.nx (envP e ps dep c' (some (.int f.1)) (some (.int f.2.1)) (some (.int f.2.2)) (some (.int (vq e f).1)) (some (.int (vq e f).2)))) s := by
  obtain ⟨b1, b2⟩ := vq_bt he bf
  have m : ∀ {x y : Int}, Bt 7000 x → Bt 7000 y → MulOk x y := fun h k => mk2 h k (by decide) (by decide)
  have m3 : ∀ {x y : Int}, Bt 3100 x → Bt 3000 y → MulOk x y := fun h k => mk2 h k (by decide) (by decide)
  have u1 : Bt 7000 (-(vq e f).1) := b1.neg.mono (by decide)
  have u2 : Bt 7000 (vq e f).1 := b1.mono (by decide)
  have u3 : Bt 7000 ((vq e f).2 - (vq e f).1) := (b2.sub b1).mono (by decide)
  have u4 : Bt 7000 ((vq e f).1 - (vq e f).2) := (b1.sub b2).mono (by decide)
  have q1 := mulD_int (s := s) (m u1 hc.u)
  have q2 := mulD_int (s := s) (m hc.l u3)
  have q3 := mulD_int (s := s) (m u2 hc.o)
  have q4 := mulD_int (s := s) (m hc.h u4)
  obtain ⟨v1, hv1⟩ : ∃ v1, v1 = (vq e f).1 := ⟨_, rfl⟩
  obtain ⟨v2, hv2⟩ : ∃ v2, v2 = (vq e f).2 := ⟨_, rfl⟩
  have w1 : f.1 * e.1 + f.2.1 * e.2.1 - f.2.2 * e.2.2.2.2 = v1 := hv1.symm
  have w2 : f.1 * e.2.2.1 + f.2.1 * e.2.2.2.1 - f.2.2 * e.2.2.2.2 = v2 := hv2.symm
  unfold stepC
  rw [← hv1, ← hv2] at q2 q4 ⊢
  rw [← hv1] at q1 q3
  have n1 := mulD_int (s := s) (m3 bf.u he.a)
  have n2 := mulD_int (s := s) (m3 bf.v he.b)
  have n3 := mulD_int (s := s) (m3 bf.c he.w)
  have n4 := mulD_int (s := s) (m3 bf.u he.c)
  have n5 := mulD_int (s := s) (m3 bf.v he.d)
  by_cases h1 : v1 < dep
  · by_cases h2 : v2 < dep
    · rw [if_pos h1, if_pos h2]
      simp! only [envP, B_part_in_1, n1, n2, n3, n4, n5, w1, w2, h1, h2]
    · by_cases h3 : c.l * (v2 - v1) < -v1 * c.u
      · rw [if_pos h1, if_neg h2, if_pos h3]
        simp! only [envP, B_part_in_1, n1, n2, n3, n4, n5, w1, w2, h1, h2, q1, q2, h3, parS_run]
      · rw [if_pos h1, if_neg h2, if_neg h3]
        simp! only [envP, B_part_in_1, n1, n2, n3, n4, n5, w1, w2, h1, h2, q1, q2, h3, parS_run]
  · by_cases h2 : v2 < dep
    · by_cases h3 : v1 * c.o < c.h * (v1 - v2)
      · rw [if_neg h1, if_pos ⟨h2, h3⟩]
        simp! only [envP, B_part_in_1, n1, n2, n3, n4, n5, w1, w2, h1, h2, q3, q4, h3, parS_run]
      · rw [if_neg h1, if_neg fun z => h3 z.2]
        simp! only [envP, B_part_in_1, n1, n2, n3, n4, n5, w1, w2, h1, h2, q3, q4, h3, parS_run]
    · rw [if_neg h1, if_neg fun z => h2 z.1]
      simp! only [envP, B_part_in_1, n1, n2, n3, n4, n5, w1, w2, h1, h2, q3, q4, parS_run]
theorem bt_one {n : Nat} {i : Int} (hn : 1 ≤ n) (h : i.natAbs ≤ 1) : Bt n i := Nat.lt_of_lt_of_le (show i.natAbs < 2 ^ 1 by omega) (Nat.pow_le_pow_right (by decide) hn)
theorem run_part {e : S5} {ps : List Fn} {dep : Int} (he : B5 e) (hz : ps.length ≤ 100000) (hp : ∀ f ∈ ps, BF f) : F_part_in [s5 e, .vls (ps.map t3), .int dep] s = .ok (partD (clipC dep GM.start (ps.map (vq e)))) s := by
  obtain ⟨o, s', el, c⟩ := loop_ret (r := ⟨ps.map t3, none⟩) (g := gTupM 3 (gConsM (gNm 12) (gConsM (gNm 13) (gConsM (gNm 14) gNilM)))) (b := B_part_in_1) (enc := t3) (step := stepE dep e)
    (fun c env s' => ∃ (x12 x13 x14 x15 x16 : Option D), env = envP e ps dep c x12 x13 x14 x15 x16 ∧ s' = s ∧ BC c) (fun d s' => d = .non ∧ s' = s) (fun _ _ _ _ => trivial) ps GM.start
    (envP e ps dep GM.start none none none none none) s ⟨none, none, none, none, none, rfl, rfl, ⟨bt_one (by decide) (by decide), bt_one (by decide) (by decide), bt_one (by decide) (by decide), bt_one (by decide) (by decide)⟩⟩ (by
      rintro f hf c env s' ⟨x12, x13, x14, x15, x16, rfl, rfl, hc⟩
      have bf := hp f hf
      rw [part_turn he bf hc]
      unfold stepE
      cases h : stepC dep c (vq e f) with
      | none => exact ⟨_, _, rfl, .inr ⟨.non, rfl, rfl, rfl, rfl⟩⟩
      | some c' => exact ⟨_, _, rfl, .inl ⟨c', _, rfl, rfl, _, _, _, _, _, rfl, rfl, step_bc he bf hc h⟩⟩)
  have k2 : ∀ (a b : Int) (s : S), tupK [.int a, .int b] s = .ok (.tup [.int a, .int b]) s := fun _ _ _ => rfl
  rw [clip_fold]
  unfold F_part_in m_part_in
  unfold envP at el
  rcases c with ⟨c, env', h1, rfl, x12, x13, x14, x15, x16, rfl, rfl, hc⟩ | ⟨d, h1, rfl, rfl, rfl⟩
  · rw [h1]
    have el' := el
    unfold GM.start at el'
    simp only [] at el'
    have m : ∀ {x y : Int}, Bt 7000 x → Bt 7000 y → MulOk x y := fun h k => mk2 h k (by decide) (by decide)
    have q1 := mulD_int (s := s') (m hc.l hc.o)
    have q2 := mulD_int (s := s') (m hc.h hc.u)
    by_cases hf : c.h * c.u < c.l * c.o + dep
    · have e1 : endC dep (.ok c) = none := if_pos hf
      rw [e1]
      simp! only [gTup5, el', envP, q1, q2, hf, partD]
    · have e1 : endC dep (.ok c) = some c := if_neg hf
      rw [e1]
      simp! only [gTup5, el', envP, q1, q2, hf, partD]
  · rw [h1]
    have el' := el
    unfold GM.start at el'
    simp only [] at el'
    simp! only [gTup5, el', endC, partD]
/-! ### is_in, is_inside -/
theorem plane_bf {H : List P2} (hne : 1 < H.length → ∀ q ∈ GM.sidesQ H, q.1 ≠ q.2) (hb : ∀ q ∈ H, B20 q) (h0 : 0 < H.length) : ∀ f ∈ GM.planesP H, BF f := fun f hf => by
  have one : ∀ {i : Int}, i.natAbs ≤ 1 → Bt 3100 i := fun h => bt_one (by decide) h
  have lx := (GM.lo_is (l := GM.xsQ H) (by rw [GM.xs_len]; exact h0)).1
  have hx := (GM.hi_is (l := GM.xsQ H) (by rw [GM.xs_len]; exact h0)).1
  have ly := (GM.lo_is (l := GM.ysQ H) (by rw [GM.ys_len]; exact h0)).1
  have hy := (GM.hi_is (l := GM.ysQ H) (by rw [GM.ys_len]; exact h0)).1
  obtain ⟨q1, m1, e1⟩ := List.mem_map.mp lx
  obtain ⟨q2, m2, e2⟩ := List.mem_map.mp hx
  obtain ⟨q3, m3, e3⟩ := List.mem_map.mp ly
  obtain ⟨q4, m4, e4⟩ := List.mem_map.mp hy
  rcases GM.planes_mem.mp hf with h | ⟨h1, q, hq, rfl⟩
  · unfold GM.boxF at h
    simp only [List.mem_cons, List.not_mem_nil, or_false] at h
    rcases h with rfl | rfl | rfl | rfl
    · exact ⟨one (show (1 : Int).natAbs ≤ 1 by decide), one (show (0 : Int).natAbs ≤ 1 by decide), by show Bt 3100 (GM.lo (GM.xsQ H)); rw [← e1]; exact (hb _ m1).x.mono (by decide)⟩
    · exact ⟨one (show (-1 : Int).natAbs ≤ 1 by decide), one (show (0 : Int).natAbs ≤ 1 by decide), by show Bt 3100 (-GM.hi (GM.xsQ H)); rw [← e2]; exact (hb _ m2).x.neg.mono (by decide)⟩
    · exact ⟨one (show (0 : Int).natAbs ≤ 1 by decide), one (show (1 : Int).natAbs ≤ 1 by decide), by show Bt 3100 (GM.lo (GM.ysQ H)); rw [← e3]; exact (hb _ m3).y.mono (by decide)⟩
    · exact ⟨one (show (0 : Int).natAbs ≤ 1 by decide), one (show (-1 : Int).natAbs ≤ 1 by decide), by show Bt 3100 (-GM.hi (GM.ysQ H)); rw [← e4]; exact (hb _ m4).y.neg.mono (by decide)⟩
  · obtain ⟨i, hi, rfl⟩ := GM.sidesQ_mem.mp hq
    have b1 := hb _ (GM.nth_mem hi)
    have b2 := hb _ (GM.nth_mem (GM.nxt_lt hi))
    have ne := hne h1 _ hq
    obtain ⟨g, hg, k⟩ := GM.sideF_mul ne
    obtain ⟨k1, k2, k3⟩ := k _ rfl
    have low : ∀ {x y g : Int}, 0 < g → g * y = x → Bt 1001 x → Bt 1001 y := fun {x y g} hg e h => h.le (by
      rw [← e, Int.natAbs_mul]
      exact Nat.le_mul_of_pos_left _ (by omega))
    have u := low hg k1 (b1.y.sub b2.y)
    have v := low hg k2 (b2.x.sub b1.x)
    refine ⟨u.mono (by decide), v.mono (by decide), ?_⟩
    rw [k3]
    exact ((u.mul b1.x).add (v.mul b1.y)).mono (by decide)
def isInP (dep : Int) (H : List P2) (p : Pt) : Bool := (clipC dep GM.start ((GM.planesP H).map (vq (segQ p p)))).isSome
theorem notn_part (c : Option Cs) : notnD (partD c) s = .ok (.bl c.isSome) s := by
  cases c with
  | none => rfl
  | some c => rfl
/-- what a piece of the program's is -/
structure PcOk (H : List P2) : Prop where
  hull : IsHull H H
  len : H.length ≤ 1000
  b : ∀ q ∈ H, B20 q
theorem PcOk.ne {H : List P2} (h : PcOk H) : 1 < H.length → ∀ q ∈ GM.sidesQ H, q.1 ≠ q.2 := fun h1 q hq => by
  obtain ⟨i, hi, rfl⟩ := GM.sidesQ_mem.mp hq
  exact GM.nxt_ne h.hull h1 hi
theorem run_planesP {H : List P2} (h : PcOk H) : F_planes_of [.tup (H.map pD)] s = .ok (.vls ((GM.planesP H).map t3)) s := run_planes h.hull.pos h.len h.ne h.b
theorem run_partP {H : List P2} {e : S5} {dep : Int} (h : PcOk H) (he : B5 e) : F_part_in [s5 e, .vls ((GM.planesP H).map t3), .int dep] s = .ok (partD (clipC dep GM.start ((GM.planesP H).map (vq e)))) s := run_part he (by have := planes_len H; have := h.len; omega) (plane_bf h.ne h.b h.hull.pos)
end

/-! corners as points of the law's; where python counts from behind -/
open GM (P2 area Lt hullQ wrapQ wrapP nextP bestP better farP nth nxt IsHull Seg Bw Edge)
abbrev e3 (q : P2) : T3 := (q.1, q.2, 1)
theorem dt_e3 (a b c : P2) : dt (e3 a) (e3 b) (e3 c) = area a b c := by
  unfold dt area
  simp only [Int.mul_one]
theorem gT_e3 {H : List P2} {k : Nat} (h : k < H.length) : gT (H.map e3) k = e3 (nth H k) := by
  unfold gT GM.nth
  rw [List.getD_eq_getElem?_getD, List.getD_eq_getElem?_getD, List.getElem?_map, List.getElem?_eq_getElem h]
  rfl
theorem mid_bw {a b c : Int} (h : Bw a b c) : mid a b c = true := by
  unfold Bw at h
  unfold mid
  rw [Bool.or_eq_true, Bool.and_eq_true, Bool.and_eq_true, decide_eq_true_iff, decide_eq_true_iff, decide_eq_true_iff, decide_eq_true_iff]
  exact h
theorem onS_seg {p a b : P2} (h : Seg p a b) : onS (e3 p) (e3 a) (e3 b) = true := by
  obtain ⟨h1, h2, h3⟩ := h
  unfold onS
  rw [dt_e3, h1]
  simp only [Int.mul_one]
  rw [mid_bw h2, mid_bw h3]
  rfl
theorem tri_of {p : P2} {H : List P2} {k : Nat} (hk : k + 1 < H.length) (h1 : 0 ≤ area (nth H 0) (nth H k) p) (h2 : 0 ≤ area (nth H k) (nth H (k + 1)) p) (h3 : 0 ≤ area (nth H (k + 1)) (nth H 0) p) : triS (e3 p) (H.map e3) k = true := by
  unfold triS
  rw [gT_e3 (by omega), gT_e3 (by omega), gT_e3 hk, dt_e3, dt_e3, dt_e3]
  have n : ∀ x : Int, 0 ≤ x → decide (sgn x < 0) = false := fun x hx => decide_eq_false fun h => by
    have := (sgn_n x).mp h
    omega
  rw [n _ h1, n _ h2, n _ h3]
  rfl
theorem in_hull {pts H : List P2} (h : IsHull pts H) {p : P2} (hp : p ∈ pts) : inS (e3 p) (H.map e3) = true := by
  have h0 := h.pos
  unfold inS
  rw [List.length_map]
  by_cases hm : H.length < 3
  · rw [if_pos hm, gT_e3 h0, gT_e3 (by omega)]
    exact onS_seg (h.seg hm hp)
  · rw [if_neg hm]
    obtain ⟨k, k1, k2, t1, t2, t3⟩ := GM.tri (H := H) (p := p) (by omega) fun i hi => GM.edge_nonneg (h.edge hi) hp
    refine List.any_eq_true.mpr ⟨k - 1, List.mem_range.mpr (by omega), ?_⟩
    have e : k - 1 + 1 = k := by omega
    show triS (e3 p) (H.map e3) (k - 1 + 1) = true
    rw [e]
    exact tri_of k2 t1 t2 t3
theorem b3_e3 {q : P2} (h : B60 q) : B3 (e3 q) := by
  have b : ∀ x : Int, -1000000000000 ≤ x → x ≤ 1000000000000 → Bt 40000 x := fun x h0 h1 => Bt.mono (m := 60) (show x.natAbs < 2 ^ 60 by omega) (by decide)
  exact ⟨b _ h.x.1 h.x.2, b _ h.y.1 h.y.2, b 1 (by decide) (by decide)⟩
/-- the turn at the place k of a ring that python counts from behind -/
def backN (m k j : Nat) : Nat := if k < j then m + k - j else k - j
theorem nxt_back {H : List P2} {k : Nat} (hm : 3 ≤ H.length) (hk : k < H.length) : nxt H (backN H.length k 2) = backN H.length k 1 ∧ nxt H (backN H.length k 1) = k ∧ backN H.length k 2 < H.length := by
  unfold GM.nxt backN
  refine ⟨?_, ?_, ?_⟩
  · split <;> split <;> split <;> omega
  · split <;> split <;> omega
  · split <;> omega
theorem back_at {l : List T3} {k j : Nat} (hk : k < l.length) (hj : j ≤ l.length) : atI (l.map t3) ((k : Int) - (j : Int)) = some (t3 (gT l (backN l.length k j))) := by
  unfold backN
  by_cases h : k < j
  · rw [if_pos h]
    have e : ((k : Int) - (j : Int)) = -((j - k : Nat) : Int) := by omega
    rw [e]
    refine PL.atI_neg (by omega) (by rw [List.length_map]; omega) ?_
    rw [List.length_map, show l.length - (j - k) = l.length + k - j by omega, List.getElem?_map, List.getElem?_eq_getElem (by omega)]
    unfold gT
    rw [List.getD_eq_getElem?_getD, List.getElem?_eq_getElem (by omega)]
    rfl
  · rw [if_neg h]
    have e : ((k : Int) - (j : Int)) = ((k - j : Nat) : Int) := by omega
    rw [e]
    exact gT_at (by omega)

/-! the law's geometry is that of integer points at a scale -/
open GM (P2 area Lt nth nxt IsHull Seg Bw Edge Fn sc scL In inP Str meetP)
/-- q is the point p at the scale L -/
def At (L : Int) (p : T3) (q : P2) : Prop := ∃ k : Int, 0 < k ∧ 0 < p.2.2 ∧ k * p.2.2 = L ∧ q = (k * p.1, k * p.2.1)
theorem At.pos {L : Int} {p : T3} {q : P2} (h : At L p q) : 0 < L := by
  obtain ⟨k, hk, hp, e, _⟩ := h
  rw [← e]
  exact Int.mul_pos hk hp
theorem at_e3 {L : Int} (hL : 0 < L) (q : P2) : At L (e3 q) (sc L q) := ⟨L, hL, Int.one_pos, Int.mul_one L, rfl⟩
theorem at_self {p : T3} (h : 0 < p.2.2) : At p.2.2 p (p.1, p.2.1) := ⟨1, Int.one_pos, h, Int.one_mul _, by rw [Int.one_mul, Int.one_mul]⟩
theorem At.sc {L k : Int} {p : T3} {q : P2} (h : At L p q) (hk : 0 < k) : At (k * L) p (sc k q) := by
  obtain ⟨j, hj, hp, e, e2⟩ := h
  refine ⟨k * j, Int.mul_pos hk hj, hp, by rw [← e, Int.mul_assoc], ?_⟩
  rw [e2]
  unfold GM.sc
  simp only [Int.mul_assoc]
theorem sgn_of {x y m n : Int} (hm : 0 < m) (hn : 0 < n) (e : m * x = n * y) : sgn x = sgn y := by
  have h1 := sgn_pos (x := x) hm
  have h2 := sgn_pos (x := y) hn
  rw [Int.mul_comm] at h1 h2
  rw [← h1, ← h2, e]
theorem at_dt {L : Int} {a b c : T3} {A B C : P2} (ha : At L a A) (hb : At L b B) (hc : At L c C) : sgn (dt a b c) = sgn (area A B C) := by
  have hL := ha.pos
  obtain ⟨ka, h1, h2, h3, rfl⟩ := ha
  obtain ⟨kb, h4, h5, h6, rfl⟩ := hb
  obtain ⟨kc, h7, h8, h9, rfl⟩ := hc
  obtain ⟨ax, ay, aw⟩ := a
  obtain ⟨bx, by_, bw⟩ := b
  obtain ⟨cx, cy, cw⟩ := c
  simp only [] at h2 h3 h5 h6 h8 h9 ⊢
  refine sgn_of (m := L * L) (n := (aw * bw) * (aw * cw)) (Int.mul_pos hL hL) (Int.mul_pos (Int.mul_pos h2 h5) (Int.mul_pos h2 h8)) ?_
  unfold dt area
  simp only []
  have e1 : aw * bw * (kb * bx - ka * ax) = L * (bx * aw - ax * bw) := by
    have : aw * bw * (kb * bx - ka * ax) = aw * bx * (kb * bw) - ax * bw * (ka * aw) := by grind
    rw [this, h3, h6]
    grind
  have e2 : aw * cw * (kc * cy - ka * ay) = L * (cy * aw - ay * cw) := by
    have : aw * cw * (kc * cy - ka * ay) = aw * cy * (kc * cw) - ay * cw * (ka * aw) := by grind
    rw [this, h3, h9]
    grind
  have e3 : aw * bw * (kb * by_ - ka * ay) = L * (by_ * aw - ay * bw) := by
    have : aw * bw * (kb * by_ - ka * ay) = aw * by_ * (kb * bw) - ay * bw * (ka * aw) := by grind
    rw [this, h3, h6]
    grind
  have e4 : aw * cw * (kc * cx - ka * ax) = L * (cx * aw - ax * cw) := by
    have : aw * cw * (kc * cx - ka * ax) = aw * cx * (kc * cw) - ax * cw * (ka * aw) := by grind
    rw [this, h3, h9]
    grind
  have l : L * L * ((bx * aw - ax * bw) * (cy * aw - ay * cw) - (by_ * aw - ay * bw) * (cx * aw - ax * cw)) = (L * (bx * aw - ax * bw)) * (L * (cy * aw - ay * cw)) - (L * (by_ * aw - ay * bw)) * (L * (cx * aw - ax * cw)) := by grind
  rw [l, ← e1, ← e2, ← e3, ← e4]
  grind
theorem le_of_mul {x y X Y m n : Int} (hm : 0 < m) (hn : 0 < n) (e1 : m * x = n * X) (e2 : m * y = n * Y) : x ≤ y ↔ X ≤ Y := by
  rw [← Int.mul_le_mul_left hm, e1, e2, Int.mul_le_mul_left hn]
theorem mid_iff {a b c : Int} : mid a b c = true ↔ Bw a b c := by
  unfold mid Bw
  rw [Bool.or_eq_true, Bool.and_eq_true, Bool.and_eq_true, decide_eq_true_iff, decide_eq_true_iff, decide_eq_true_iff, decide_eq_true_iff]
theorem bw_of {x y z X Y Z m n : Int} (hm : 0 < m) (hn : 0 < n) (e1 : m * x = n * X) (e2 : m * y = n * Y) (e3 : m * z = n * Z) : Bw x y z ↔ Bw X Y Z := by
  unfold Bw
  rw [le_of_mul hm hn e1 e2, le_of_mul hm hn e2 e3, le_of_mul hm hn e3 e2, le_of_mul hm hn e2 e1]
theorem at_on {L : Int} {p a b : T3} {P A B : P2} (hp : At L p P) (ha : At L a A) (hb : At L b B) : onS p a b = true ↔ Seg P A B := by
  have d := at_dt ha hb hp
  have hL := ha.pos
  unfold onS GM.Seg
  rw [Bool.and_eq_true, Bool.and_eq_true, decide_eq_true_iff, mid_iff, mid_iff, d]
  have z : sgn (area A B P) = 0 ↔ area A B P = 0 := sgn_z _
  rw [z]
  obtain ⟨ka, h1, h2, h3, rfl⟩ := ha
  obtain ⟨kb, h4, h5, h6, rfl⟩ := hb
  obtain ⟨kp, h7, h8, h9, rfl⟩ := hp
  have hm : 0 < ka * kb * kp := Int.mul_pos (Int.mul_pos h1 h4) h7
  have hn : 0 < L * L := Int.mul_pos hL hL
  have t1 : ∀ u : Int, ka * kb * kp * (u * b.2.2 * p.2.2) = L * L * (ka * u) := fun u => by
    have : ka * kb * kp * (u * b.2.2 * p.2.2) = (kb * b.2.2) * (kp * p.2.2) * (ka * u) := by grind
    rw [this, h6, h9]
  have t2 : ∀ u : Int, ka * kb * kp * (u * (a.2.2 * b.2.2)) = L * L * (kp * u) := fun u => by
    have : ka * kb * kp * (u * (a.2.2 * b.2.2)) = (ka * a.2.2) * (kb * b.2.2) * (kp * u) := by grind
    rw [this, h3, h6]
  have t3 : ∀ u : Int, ka * kb * kp * (u * a.2.2 * p.2.2) = L * L * (kb * u) := fun u => by
    have : ka * kb * kp * (u * a.2.2 * p.2.2) = (ka * a.2.2) * (kp * p.2.2) * (kb * u) := by grind
    rw [this, h3, h9]
  rw [bw_of hm hn (t1 a.1) (t2 p.1) (t3 b.1), bw_of hm hn (t1 a.2.1) (t2 p.2.1) (t3 b.2.1)]
/-- corners at a scale -/
structure AtL (L : Int) (cs : List T3) (C : List P2) : Prop where
  len : cs.length = C.length
  get : ∀ i, i < C.length → At L (gT cs i) (nth C i)
theorem atL_e3 {L : Int} (hL : 0 < L) (H : List P2) : AtL L (H.map e3) (scL L H) := ⟨by rw [List.length_map, GM.scL_len], fun i hi => by
  rw [GM.scL_len] at hi
  rw [gT_e3 hi, GM.nth_sc L hi]
  exact at_e3 hL _⟩
theorem at_in {L : Int} {p : T3} {P : P2} {cs : List T3} {C : List P2} (hp : At L p P) (hc : AtL L cs C) (h0 : 0 < C.length) : inS p cs = true ↔ inP P C := by
  unfold inS GM.inP
  rw [hc.len]
  by_cases h3 : C.length < 3
  · rw [if_pos h3, if_pos h3]
    exact at_on hp (hc.get 0 h0) (hc.get _ (by omega))
  · rw [if_neg h3, if_neg h3, List.any_eq_true]
    have t : ∀ k, 1 ≤ k → k + 1 < C.length → (triS p cs k = true ↔ 0 ≤ area (nth C 0) (nth C k) P ∧ 0 ≤ area (nth C k) (nth C (k + 1)) P ∧ 0 ≤ area (nth C (k + 1)) (nth C 0) P) := fun k k1 k2 => by
      have d1 := at_dt (hc.get 0 h0) (hc.get k (by omega)) hp
      have d2 := at_dt (hc.get k (by omega)) (hc.get (k + 1) k2) hp
      have d3 := at_dt (hc.get (k + 1) k2) (hc.get 0 h0) hp
      unfold triS
      rw [d1, d2, d3]
      have n : ∀ x : Int, sgn x < 0 ↔ x < 0 := sgn_n
      rw [Bool.not_eq_true', Bool.or_eq_false_iff, Bool.or_eq_false_iff, decide_eq_false_iff_not, decide_eq_false_iff_not, decide_eq_false_iff_not, n, n, n]
      omega
    constructor
    · rintro ⟨i, hi, k⟩
      have := List.mem_range.mp hi
      exact ⟨i + 1, by omega, by omega, (t (i + 1) (by omega) (by omega)).mp k⟩
    · rintro ⟨k, k1, k2, k3⟩
      refine ⟨k - 1, List.mem_range.mpr (by omega), ?_⟩
      show triS p cs (k - 1 + 1) = true
      rw [show k - 1 + 1 = k by omega]
      exact (t k k1 k2).mpr k3
/-! ### strictly within -/
def strictS (p : T3) (cs : List T3) : Bool := if cs.length < 3 then false else (List.range cs.length).all fun k => decide (0 < sgn (dt (gT cs (backN cs.length k 1)) (gT cs k) p))
theorem back1_lt {m k : Nat} (h : k < m) : backN m k 1 < m := by unfold backN; split <;> omega
theorem nxt_back1 {C : List P2} {k : Nat} (h : k < C.length) : nxt C (backN C.length k 1) = k := by
  unfold GM.nxt backN
  split <;> split <;> omega
theorem at_strict {L : Int} {p : T3} {P : P2} {cs : List T3} {C : List P2} (hp : At L p P) (hc : AtL L cs C) : strictS p cs = true ↔ Str C P := by
  unfold strictS GM.Str
  rw [hc.len]
  by_cases h3 : C.length < 3
  · rw [if_pos h3]
    exact ⟨(fun h => nomatch h), fun h => by have := h.1; omega⟩
  · rw [if_neg h3, List.all_eq_true]
    have d : ∀ k, k < C.length → (0 < sgn (dt (gT cs (backN C.length k 1)) (gT cs k) p) ↔ 0 < area (nth C (backN C.length k 1)) (nth C k) P) := fun k hk => by
      rw [at_dt (hc.get _ (back1_lt hk)) (hc.get k hk) hp]
      exact sgn_p _
    constructor
    · intro h
      refine ⟨by omega, fun i hi => ?_⟩
      have := (d _ (GM.nxt_lt hi)).mp (of_decide_eq_true (h _ (List.mem_range.mpr (GM.nxt_lt hi))))
      have e : backN C.length (nxt C i) 1 = i := by
        unfold GM.nxt backN
        split <;> split <;> omega
      rw [e] at this
      exact this
    · intro h k hk
      have hk := List.mem_range.mp hk
      refine decide_eq_true ((d k hk).mpr ?_)
      have := h.2 _ (back1_lt hk)
      rw [nxt_back1 hk] at this
      exact this

/-! the program's tests are the law's -/
open GM (P2 area Lt nth nxt IsHull Seg Bw Edge Fn sc scL In inP Str meetP)
abbrev scaleQ (p : Pt) : T3 := (p.1.1 * p.2.2, p.2.1 * p.1.2, p.1.2 * p.2.2)
theorem lcmQ_pos {a b : Pt} (ha : BP a) (hb : BP b) : 0 < lcmQ a b := by
  have := lcm4_pos ha.x0 ha.y0 hb.x0 hb.y0
  unfold lcmQ
  omega
/-- an end of a segment, at the segment's divisor: one point with the law's -/
structure EndOk (p : Pt) (x y w : Int) : Prop where
  hx : ∃ m, p.1.2 * m = w ∧ x = p.1.1 * m
  hy : ∃ m, p.2.2 * m = w ∧ y = p.2.1 * m
theorem seg_ends {a b : Pt} : EndOk a (segQ a b).1 (segQ a b).2.1 (lcmQ a b) ∧ EndOk b (segQ a b).2.2.1 (segQ a b).2.2.2.1 (lcmQ a b) := by
  obtain ⟨d1, d2, d3, d4⟩ := lcm4_dvd (a := a.1.2) (b := a.2.2) (c := b.1.2) (d := b.2.2)
  exact ⟨⟨⟨_, Int.mul_ediv_cancel' d1, rfl⟩, ⟨_, Int.mul_ediv_cancel' d2, rfl⟩⟩, ⟨⟨_, Int.mul_ediv_cancel' d3, rfl⟩, ⟨_, Int.mul_ediv_cancel' d4, rfl⟩⟩⟩
theorem EndOk.at {p : Pt} {x y w : Int} (h : EndOk p x y w) (h0 : 0 < p.1.2) (h1 : 0 < p.2.2) (hw : 0 < w) : At (p.1.2 * p.2.2 * w) (scaleQ p) (sc (p.1.2 * p.2.2) (x, y)) := by
  obtain ⟨⟨m, hm, rfl⟩, ⟨n, hn, rfl⟩⟩ := h
  refine ⟨w, hw, Int.mul_pos h0 h1, Int.mul_comm _ _, ?_⟩
  unfold GM.sc
  simp only []
  refine Prod.ext ?_ ?_
  · show p.1.2 * p.2.2 * (p.1.1 * m) = w * (p.1.1 * p.2.2)
    rw [← hm]
    grind
  · show p.1.2 * p.2.2 * (p.2.1 * n) = w * (p.2.1 * p.1.2)
    rw [← hn]
    grind
theorem map_pv {ps : List Fn} {x y w : Int} : ps.map (vq (x, y, x, y, w)) = (ps.map fun f => GM.pvw f x y w).map fun v => (v, v) := by
  rw [List.map_map]
  exact List.map_congr_left fun f _ => rfl
theorem seg_pt (p : Pt) : segQ p p = ((segQ p p).1, (segQ p p).2.1, (segQ p p).1, (segQ p p).2.1, lcmQ p p) := rfl
theorem isIn_eq {H : List P2} {p : Pt} (h : PcOk H) (hp : BP p) : isInP 0 H p = inS (scaleQ p) (H.map e3) := by
  have hw := lcmQ_pos hp hp
  have hd := Int.mul_pos hp.x0 hp.y0
  have ha := (seg_ends (a := p) (b := p)).1.at hp.x0 hp.y0 hw
  have hL := Int.mul_pos hd hw
  rw [Bool.eq_iff_iff, at_in ha (atL_e3 hL H) (by rw [GM.scL_len]; exact h.hull.pos), ← GM.scL_scL, GM.inP_iff (GM.hull_sc hd (GM.hull_sc hw h.hull)), GM.in_sc hd, ← GM.planes_in h.hull hw]
  unfold isInP
  rw [seg_pt p, map_pv, GM.clip0_pt]
  simp only [List.mem_map, forall_exists_index, and_imp, forall_apply_eq_imp_iff₂]
theorem isInside_eq {H : List P2} {p : Pt} (h : PcOk H) (hp : BP p) : isInP 1 H p = strictS (scaleQ p) (H.map e3) := by
  have hw := lcmQ_pos hp hp
  have hd := Int.mul_pos hp.x0 hp.y0
  have ha := (seg_ends (a := p) (b := p)).1.at hp.x0 hp.y0 hw
  have hL := Int.mul_pos hd hw
  rw [Bool.eq_iff_iff, at_strict ha (atL_e3 hL H), ← GM.scL_scL, GM.str_sc hd, ← GM.planes_str h.hull hw]
  unfold isInP
  rw [seg_pt p, map_pv, GM.clip1_pt]
  simp only [List.mem_map, forall_exists_index, and_imp, forall_apply_eq_imp_iff₂]
theorem EndOk.eq {p : Pt} {x y w : Int} (h : EndOk p x y w) : w * (scaleQ p).1 = (scaleQ p).2.2 * x ∧ w * (scaleQ p).2.1 = (scaleQ p).2.2 * y := by
  obtain ⟨⟨m, hm, rfl⟩, ⟨n, hn, rfl⟩⟩ := h
  constructor
  · show w * (p.1.1 * p.2.2) = p.1.2 * p.2.2 * (p.1.1 * m)
    rw [← hm]
    grind
  · show w * (p.2.1 * p.1.2) = p.1.2 * p.2.2 * (p.2.1 * n)
    rw [← hn]
    grind

/-! the law's own draws: fractions, places -/
open GM (P2)
def stepR (k : Int) (q : Int × Int) : Int × Int := if (decide (q.1 % k = 0) && (decide (q.2 % k = 0) && decide (1 < q.2))) = true then (q.1 / k, q.2 / k) else q
def foldR (k : Int) (q : Int × Int) : Int × Int := (List.range 4).foldl (fun st _ => stepR k st) q
def latR (n d : Int) : Int × Int := [2, 3, 5].foldl (fun st k => foldR k st) (n, d)
def lrat (n d : Int) : Int × Int := ((latR n d).1, if (latR n d).1 = 0 then 1 else (latR n d).2)
structure LeR (q p : Int × Int) : Prop where
  n : q.1.natAbs ≤ p.1.natAbs
  d : q.2 ≤ p.2
  pos : 0 < q.2
theorem stepR_le {k : Int} (hk : 1 < k) {q : Int × Int} (h : 0 < q.2) : LeR (stepR k q) q := by
  unfold stepR
  split
  · rename_i c
    rw [Bool.and_eq_true, Bool.and_eq_true, decide_eq_true_iff, decide_eq_true_iff, decide_eq_true_iff] at c
    obtain ⟨c1, c2, c3⟩ := c
    have e1 := Int.mul_ediv_add_emod q.2 k
    rw [c2, Int.add_zero] at e1
    have p : 0 < q.2 / k := by
      have : 0 < k * (q.2 / k) := by omega
      exact GM.pos_of_mul (by omega) this
    refine ⟨?_, ?_, p⟩
    · show (q.1 / k).natAbs ≤ q.1.natAbs
      have e2 := Int.mul_ediv_add_emod q.1 k
      rw [c1, Int.add_zero] at e2
      rw [← e2, Int.natAbs_mul, Int.mul_ediv_cancel_left _ (by omega)]
      exact Nat.le_mul_of_pos_left _ (by omega)
    · show q.2 / k ≤ q.2
      exact Int.ediv_le_self k (by omega)
  · exact ⟨Nat.le_refl _, Int.le_refl _, h⟩
theorem foldR_le {α : Type} {f : Int × Int → α → Int × Int} (hf : ∀ q a, 0 < q.2 → LeR (f q a) q) : ∀ (l : List α) (q : Int × Int), 0 < q.2 → LeR (l.foldl f q) q
  | [], q, h => ⟨Nat.le_refl _, Int.le_refl _, h⟩
  | a :: l, q, h => by
    have h1 := hf q a h
    have h2 := foldR_le hf l (f q a) h1.pos
    exact ⟨Nat.le_trans h2.n h1.n, Int.le_trans h2.d h1.d, h2.pos⟩
theorem latR_le {n d : Int} (h : 0 < d) : LeR (latR n d) (n, d) := by
  have one : ∀ k : Int, 1 < k → ∀ q : Int × Int, 0 < q.2 → LeR (foldR k q) q := fun k hk q hq => foldR_le (fun q _ h => stepR_le hk h) _ q hq
  have a := one 2 (by decide) (n, d) h
  have b := one 3 (by decide) _ a.pos
  have c := one 5 (by decide) _ b.pos
  exact ⟨Nat.le_trans c.n (Nat.le_trans b.n a.n), Int.le_trans c.d (Int.le_trans b.d a.d), c.pos⟩
theorem lrat_ok {n d : Int} (h : 0 < d) : (lrat n d).1.natAbs ≤ n.natAbs ∧ 0 < (lrat n d).2 ∧ (lrat n d).2 ≤ d := by
  have a := latR_le (n := n) h
  have a3 : (latR n d).2 ≤ d := a.d
  unfold lrat
  refine ⟨a.n, ?_, ?_⟩
  · show 0 < (if (latR n d).1 = 0 then 1 else (latR n d).2)
    split
    · decide
    · exact a.pos
  · show (if (latR n d).1 = 0 then 1 else (latR n d).2) ≤ d
    split
    · omega
    · exact a3
section
variable {s : S}
theorem rngB4 : rng1D [.int 4] s = .ok ⟨(List.range 4).map fun (i : Nat) => D.int (i : Int), none⟩ s := rng1_nat (n := 4) (by decide)
theorem run_rin {k : Int} {q : Int × Int} {x3 : Option D} (h : 1 < k) (hk : k ≤ 100) : ∃ x3', loopM ⟨(List.range 4).map fun (i : Nat) => D.int (i : Int), none⟩ (gNm 3) B__law_ratio_1 ((List.range 4).map fun (i : Nat) => D.int (i : Int)) [some (.int q.1), some (.int q.2), some (.int k), x3] s = .ok (.nx [some (.int (foldR k q).1), some (.int (foldR k q).2), some (.int k), x3']) s := by
  have bk : Bt 9000 k := Bt.mono (m := 7) (show k.natAbs < 2 ^ 7 by omega) (by decide)
  obtain ⟨env', s', el, x3', rfl, rfl⟩ := loop_fold (r := ⟨(List.range 4).map fun (i : Nat) => D.int (i : Int), none⟩) (g := gNm 3) (b := B__law_ratio_1) (enc := fun (i : Nat) => D.int (i : Int)) (step := fun st _ => stepR k st)
    (fun q env s' => ∃ x3 : Option D, env = [some (.int q.1), some (.int q.2), some (.int k), x3] ∧ s' = s) (fun _ _ _ _ => trivial) (List.range 4) q [some (.int q.1), some (.int q.2), some (.int k), x3] s ⟨x3, rfl, rfl⟩ (by
      rintro i _ q env s' ⟨x3, rfl, rfl⟩
      refine ⟨_, _, ?_, some (.int (i : Int)), rfl, rfl⟩
      have m1 := modD_pos (s := s') (a := q.1) (show 0 < k by omega)
      have m2 := modD_pos (s := s') (a := q.2) (show 0 < k by omega)
      have f1 := fdivD_pos (s := s') (a := q.1) (show 0 < k by omega) bk
      have f2 := fdivD_pos (s := s') (a := q.2) (show 0 < k by omega) bk
      unfold stepR
      by_cases c1 : q.1 % k = 0
      · by_cases c2 : q.2 % k = 0
        · by_cases c3 : 1 < q.2
          · simp! only [B__law_ratio_1, m1, m2, f1, f2, c1, c2, c3, Bool.and_self]
          · simp! only [B__law_ratio_1, m1, m2, f1, f2, c1, c2, c3, Bool.and_self]
        · simp! only [B__law_ratio_1, m1, m2, f1, f2, c1, c2, Bool.and_self]
      · simp! only [B__law_ratio_1, m1, m2, f1, f2, c1, Bool.and_self])
  exact ⟨x3', el⟩
theorem run_ratio {n d : Int} : F__law_ratio [.int n, .int d] s = .ok (pD (lrat n d)) s := by
  obtain ⟨a, e1⟩ := run_rin (s := s) (k := 2) (q := (n, d)) (x3 := none) (by decide) (by decide)
  obtain ⟨b, e2⟩ := run_rin (s := s) (k := 3) (q := foldR 2 (n, d)) (x3 := a) (by decide) (by decide)
  obtain ⟨c, e3⟩ := run_rin (s := s) (k := 5) (q := foldR 3 (foldR 2 (n, d))) (x3 := b) (by decide) (by decide)
  have el : foldR 5 (foldR 3 (foldR 2 (n, d))) = latR n d := rfl
  rw [el] at e3
  have e1 : loopM _ _ _ _ [some (.int n), some (.int d), some (.int 2), none] s = _ := e1
  have hg : guardM ⟨[.int 2, .int 3, .int 5], none⟩ s = .ok () s := guard_pos trivial
  have nx : ∀ (r : Src) (gg : D → PL.Env → M PL.Env) (b : PL.Env → M Out) (ds : List D) (e : PL.Env) (s : S), lpK r gg b ds (.nx e) s = loopM r gg b ds e s := fun _ _ _ _ _ _ => rfl
  unfold F__law_ratio m__law_ratio lrat
  simp only [pD]
  by_cases h : (latR n d).1 = 0
  · simp! only [loop_cons, loop_nil, hg, nx, rngB4, e1, e2, e3, h]
  · simp! only [loop_cons, loop_nil, hg, nx, rngB4, e1, e2, e3, h]
theorem run_scale {p : Pt} (hp : BP p) : F__law_scale [ptD p] s = .ok (t3 (scaleQ p)) s := by
  have m : ∀ {x y : Int}, Bt 500 x → Bt 500 y → MulOk x y := fun h k => mk2 h k (by decide) (by decide)
  unfold F__law_scale m__law_scale
  simp only [ptD, pD]
  simp! only [mulD_int (m hp.xn hp.yd), mulD_int (m hp.yn hp.xd), mulD_int (m hp.xd hp.yd)]
theorem b3_scale {p : Pt} (hp : BP p) : B3 (scaleQ p) := ⟨(hp.xn.mul hp.yd).mono (by decide), (hp.yn.mul hp.xd).mono (by decide), (hp.xd.mul hp.yd).mono (by decide)⟩
theorem isi_bb {b : Bool} {s : S} : isiD "bool" (.bl b) s = .ok (.bl true) s := isi_run rfl (by decide +kernel)
theorem run_other {a b : Bool} : F__law_other [.bl a, .bl b] s = .ok (.bl (!decide (a = b))) s := by
  unfold F__law_other m__law_other
  simp! only [isi_bb]
theorem pick4 {a b c d v : Int} (h0 : 0 ≤ v) (h1 : v < 4) : ∃ z : Int, atI ([.int a, .int b, .int c, .int d] : List D) v = some (.int z) ∧ (z = a ∨ z = b ∨ z = c ∨ z = d) := by
  have : v = 0 ∨ v = 1 ∨ v = 2 ∨ v = 3 := by omega
  rcases this with rfl | rfl | rfl | rfl
  · exact ⟨a, PL.at0 _ _, .inl rfl⟩
  · exact ⟨b, PL.at1 _ _ _, .inr (.inl rfl)⟩
  · exact ⟨c, PL.at2 _ _ _ _, .inr (.inr (.inl rfl))⟩
  · exact ⟨d, PL.at3 _ _ _ _ _, .inr (.inr (.inr rfl))⟩
theorem pick2 {a b v : Int} (h0 : 0 ≤ v) (h1 : v < 2) : ∃ z : Int, atI ([.int a, .int b] : List D) v = some (.int z) ∧ (z = a ∨ z = b) := by
  have : v = 0 ∨ v = 1 := by omega
  rcases this with rfl | rfl
  · exact ⟨a, PL.at0 _ _, .inl rfl⟩
  · exact ⟨b, PL.at1 _ _ _, .inr rfl⟩
/-- a small integer -/
theorem bt_small {n : Nat} {i : Int} (hn : 30 ≤ n) (h : i.natAbs ≤ 1000000000) : Bt n i := Nat.lt_of_lt_of_le (show i.natAbs < 2 ^ 30 by omega) (Nat.pow_le_pow_right (by decide) hn)
theorem bp_of {p : Pt} (h1 : p.1.1.natAbs ≤ 1000000000) (h2 : 0 < p.1.2 ∧ p.1.2 ≤ 1000000000) (h3 : p.2.1.natAbs ≤ 1000000000) (h4 : 0 < p.2.2 ∧ p.2.2 ≤ 1000000000) : BP p := ⟨bt_small (by decide) h1, bt_small (by decide) (by omega), bt_small (by decide) h3, bt_small (by decide) (by omega), h2.1, h4.1⟩
/-- a drawn place -/
structure SmP (p : Pt) : Prop where
  xn : p.1.1.natAbs ≤ 100000
  xd : 0 < p.1.2 ∧ p.1.2 ≤ 100
  yn : p.2.1.natAbs ≤ 100000
  yd : 0 < p.2.2 ∧ p.2.2 ≤ 100
theorem SmP.bp {p : Pt} (h : SmP p) : BP p := bp_of (by have := h.xn; omega) (by have := h.xd; omega) (by have := h.yn; omega) (by have := h.yd; omega)
theorem run_placeS {c : Cell} {r : S} {w h : Int} (P : Pot c) (hw : 0 < w) (hw2 : w ≤ 10000) (hh : 0 < h) (hh2 : h ≤ 10000) : ∃ (p : Pt) (c' : Cell), F__law_place [.ptr 0, .int w, .int h] (c :: r) = .ok (ptD p) (c' :: r) ∧ Pot c' ∧ SmP p := by
  have r1 := run_next (r := r) P (l := 4) (by decide) (by decide)
  obtain ⟨v1, P1⟩ := next_ok P (l := 4) (by decide)
  obtain ⟨d, hd, hd2⟩ := pick4 (a := 1) (b := 1) (c := 2) (d := 3) v1.1 v1.2
  have d0 : 0 < d ∧ d ≤ 3 := by omega
  have wd : 0 ≤ w * d ∧ w * d ≤ 30000 := by
    have a := Int.mul_nonneg (Int.le_of_lt hw) (Int.le_of_lt d0.1)
    have b := Int.mul_le_mul hw2 d0.2 (Int.le_of_lt d0.1) (by omega)
    omega
  have hd3 : 0 ≤ h * d ∧ h * d ≤ 30000 := by
    have a := Int.mul_nonneg (Int.le_of_lt hh) (Int.le_of_lt d0.1)
    have b := Int.mul_le_mul hh2 d0.2 (Int.le_of_lt d0.1) (by omega)
    omega
  have r2 := run_next (r := r) P1 (l := w * d + 1) (by omega) (by omega)
  obtain ⟨v2, P2'⟩ := next_ok P1 (l := w * d + 1) (by omega)
  have r3 := run_next (r := r) P2' (l := h * d + 1) (by omega) (by omega)
  obtain ⟨v3, P3⟩ := next_ok P2' (l := h * d + 1) (by omega)
  have m1 : MulOk w d := mulOk_l (by omega) (by omega)
  have m2 : MulOk h d := mulOk_l (by omega) (by omega)
  have q1 := lrat_ok (n := nextV (nextC c 4) (w * d + 1)) d0.1
  have q2 := lrat_ok (n := nextV (nextC (nextC c 4) (w * d + 1)) (h * d + 1)) d0.1
  refine ⟨(lrat (nextV (nextC c 4) (w * d + 1)) d, lrat (nextV (nextC (nextC c 4) (w * d + 1)) (h * d + 1)) d), _, ?_, P3, ⟨by show (lrat _ d).1.natAbs ≤ _; omega, ⟨q1.2.1, by show (lrat _ d).2 ≤ _; omega⟩, by show (lrat _ d).1.natAbs ≤ _; omega, ⟨q2.2.1, by show (lrat _ d).2 ≤ _; omega⟩⟩⟩
  have rat := fun n s => run_ratio (s := s) (n := n) (d := d)
  unfold F__law_place m__law_place
  simp! only [r1, hd, mulD_int m1, mulD_int m2, r2, r3, rat]
  exact cut_hd0 (P3.cl _) (by simp only [cl_tup, clL_cons, cl_pD, clL_nil, and_self])
theorem run_place {c : Cell} {r : S} {w h : Int} (P : Pot c) (hw : 0 < w) (hw2 : w ≤ 10000) (hh : 0 < h) (hh2 : h ≤ 10000) : ∃ (p : Pt) (c' : Cell), F__law_place [.ptr 0, .int w, .int h] (c :: r) = .ok (ptD p) (c' :: r) ∧ Pot c' ∧ BP p := by
  obtain ⟨p, c', h1, h2, h3⟩ := run_placeS (r := r) P hw hw2 hh hh2
  exact ⟨p, c', h1, h2, h3.bp⟩
structure B30 (p : T3) : Prop where
  x : Bt 30 p.1
  y : Bt 30 p.2.1
  z : Bt 30 p.2.2
structure C30 (q : GM.P2) : Prop where
  x : Bt 30 q.1
  y : Bt 30 q.2
theorem SmP.b30 {p : Pt} (h : SmP p) : B30 (scaleQ p) := by
  have e17 : ∀ {i : Int}, i.natAbs ≤ 100000 → Bt 17 i := fun h => Nat.lt_of_le_of_lt h (by decide)
  have e7 : ∀ {i : Int}, 0 < i ∧ i ≤ 100 → Bt 7 i := fun {i} h => Nat.lt_of_le_of_lt (show i.natAbs ≤ 100 by omega) (by decide)
  exact ⟨((e17 h.xn).mul (e7 h.yd)).mono (by decide), ((e17 h.yn).mul (e7 h.xd)).mono (by decide), ((e7 h.xd).mul (e7 h.yd)).mono (by decide)⟩
theorem nth_pick {H : List GM.P2} {v : Int} (h0 : 0 ≤ v) (h1 : v < (H.length : Int)) : ∃ q ∈ H, atI (H.map pD) v = some (pD q) := by
  obtain ⟨i, rfl⟩ : ∃ i : Nat, v = (i : Int) := ⟨v.toNat, by omega⟩
  exact ⟨GM.nth H i, GM.nth_mem (by omega), nth_at (by omega)⟩
theorem pick2D {a b : D} {v : Int} (h0 : 0 ≤ v) (h1 : v < 2) : atI ([a, b] : List D) v = some a ∨ atI ([a, b] : List D) v = some b := by
  have : v = 0 ∨ v = 1 := by omega
  rcases this with rfl | rfl
  · exact .inl (PL.at0 _ _)
  · exact .inr (PL.at1 _ _ _)
end

/-! the law's own draws: pieces -/
open GM (P2 nth nxt IsHull)
section
variable {s : S}
theorem pick6 {v : Int} (h0 : 0 ≤ v) (h1 : v < 6) : ∃ z : Nat, atI ([.int 1, .int 2, .int 3, .int 3, .int 4, .int 5] : List D) v = some (.int (z : Int)) ∧ 1 ≤ z ∧ z ≤ 5 := by
  have : v = 0 ∨ v = 1 ∨ v = 2 ∨ v = 3 ∨ v = 4 ∨ v = 5 := by omega
  have g : ∀ (k : Nat) (d : D), ([.int 1, .int 2, .int 3, .int 3, .int 4, .int 5] : List D)[k]? = some d → atI ([.int 1, .int 2, .int 3, .int 3, .int 4, .int 5] : List D) (k : Int) = some d := fun k d e => PL.atI_nat e
  rcases this with rfl | rfl | rfl | rfl | rfl | rfl
  · exact ⟨1, g 0 _ rfl, by decide, by decide⟩
  · exact ⟨2, g 1 _ rfl, by decide, by decide⟩
  · exact ⟨3, g 2 _ rfl, by decide, by decide⟩
  · exact ⟨3, g 3 _ rfl, by decide, by decide⟩
  · exact ⟨4, g 4 _ rfl, by decide, by decide⟩
  · exact ⟨5, g 5 _ rfl, by decide, by decide⟩
theorem set_hd {c c' d : Cell} {r : S} : (c :: (r ++ [d])).set (r.length + 1) c' = c :: (r ++ [c']) := by
  rw [List.set_cons_succ, set_new]
theorem at_hd {c d : Cell} {r : S} : (c :: (r ++ [d]))[r.length + 1]? = some d := by
  rw [List.getElem?_cons_succ]
  exact new_at
/-- drawn corners -/
structure InBox (a : P2) (size : Int) (q : P2) : Prop where
  x : a.1 ≤ q.1 ∧ q.1 < a.1 + size
  y : a.2 ≤ q.2 ∧ q.2 < a.2 + size
theorem run_pts {c : Cell} {r : S} {a : P2} {size : Int} {n : Nat} {x3 : Option D} (P : Pot c) (h3 : 0 < size) (h40 : size ≤ 10000) (hn : n ≤ 100) : ∃ (c' : Cell) (ps : List P2) (x5 : Option D), loopM ⟨(List.range n).map fun (i : Nat) => D.int (i : Int), none⟩ (gNm 5) B__law_piece_1 ((List.range n).map fun (i : Nat) => D.int (i : Int)) [some (.ptr 0), some (pD a), some (.int size), x3, some (.ptr (r.length + 1)), none] (c :: (r ++ [.lst []])) =
    .ok (.nx [some (.ptr 0), some (pD a), some (.int size), x3, some (.ptr (r.length + 1)), x5]) (c' :: (r ++ [.lst (ps.map pD)])) ∧ Pot c' ∧ ps.length = n ∧ ∀ p ∈ ps, InBox a size p := by
  obtain ⟨env', s', el, c', ps, x5, rfl, rfl, P', hl, hb⟩ := loop_foldI (r := ⟨(List.range n).map fun (i : Nat) => D.int (i : Int), none⟩) (g := gNm 5) (b := B__law_piece_1) (enc := fun (i : Nat) => D.int (i : Int)) (step := fun (_ : Unit) (_ : Nat) => ())
    (fun i _ env s' => ∃ (c' : Cell) (ps : List P2) (x5 : Option D), env = [some (.ptr 0), some (pD a), some (.int size), x3, some (.ptr (r.length + 1)), x5] ∧ s' = c' :: (r ++ [.lst (ps.map pD)]) ∧ Pot c' ∧ ps.length = i ∧ ∀ p ∈ ps, InBox a size p) (fun _ _ _ _ _ => trivial) (List.range n) 0 () _ (c :: (r ++ [.lst []])) ⟨c, [], none, rfl, rfl, P, rfl, fun _ h => nomatch h⟩ (by
      rintro j k hk _ env s' ⟨c1, ps, x5, rfl, rfl, P1, hl, hb⟩
      have hj := (List.getElem?_eq_some_iff.mp hk).1
      rw [List.length_range] at hj
      have r1 := fun r => run_next (r := r) P1 (l := size) h3 (by omega)
      obtain ⟨v1, P2'⟩ := next_ok P1 (l := size) h3
      have r2 := fun r => run_next (r := r) P2' (l := size) h3 (by omega)
      obtain ⟨v2, P3⟩ := next_ok P2' (l := size) h3
      obtain ⟨q, eq⟩ : ∃ q : P2, q = (a.1 + nextV c1 size, a.2 + nextV (nextC c1 size) size) := ⟨_, rfl⟩
      have hz : (ps.map pD).length ≤ 100000 := by rw [List.length_map]; omega
      refine ⟨_, _, ?_, nextC (nextC c1 size) size, ps ++ [q], some (.int (k : Int)), rfl, rfl, P3, by rw [List.length_append, List.length_singleton, hl], fun p hp => ?_⟩
      · rw [eq, List.map_append]
        simp only [pD]
        simp! only [B__law_piece_1, methA_run, isL_run, isLk_l, appD_run, new_at, r1, r2, appK_le hz, set_new, pD]
      · rcases List.mem_append.mp hp with hp | hp
        · exact hb p hp
        · rw [List.mem_singleton.mp hp, eq]
          refine ⟨⟨?_, ?_⟩, ?_, ?_⟩ <;> simp only [] <;> omega)
  rw [List.length_range, Nat.zero_add] at hl
  exact ⟨c', ps, x5, el, P', hl, hb⟩
/-- a drawn piece is a piece -/
structure DrPc (a : P2) (size : Int) (H : List P2) : Prop where
  ok : PcOk H
  len : H.length ≤ 5
  box : ∀ q ∈ H, InBox a size q
theorem hull_pc {ps : List P2} (h0 : 0 < ps.length) (hl : ps.length ≤ 1000) (hb : ∀ q ∈ ps, B20 q) : PcOk (hullP ps) := by
  have h := hullP_is h0
  have hs : ∀ q ∈ hullP ps, q ∈ ps := fun q hq => (sortU_mem q ps).mp (h.sub q hq)
  exact ⟨h.sub_pts h.sub fun p hp => hp, Nat.le_trans (hullP_len h0) hl, fun q hq => hb q (hs q hq)⟩
theorem run_piece {c : Cell} {r : S} {a : P2} {size : Int} (P : Pot c) (h3 : 0 < size) (h40 : size ≤ 10000) (ha : -100000 ≤ a.1 ∧ a.1 ≤ 100000 ∧ -100000 ≤ a.2 ∧ a.2 ≤ 100000) : ∃ (H : List P2) (c' : Cell), F__law_piece [.ptr 0, pD a, .int size] (c :: r) = .ok (.tup (H.map pD)) (c' :: r) ∧ Pot c' ∧ DrPc a size H := by
  have r1 := run_next (r := r) P (l := 6) (by decide) (by decide)
  obtain ⟨v1, P1⟩ := next_ok P (l := 6) (by decide)
  obtain ⟨n, hn, n1, n5⟩ := pick6 v1.1 v1.2
  obtain ⟨c', ps, x5, el, P', hl, hb⟩ := run_pts (r := r) (a := a) (x3 := some (.int (n : Int))) (n := n) P1 h3 h40 (by omega)
  have hr := fun s => rng1_nat (s := s) (n := n) (by omega)
  have b60 : ∀ q ∈ ps, B60 q := fun q hq => by
    have k := hb q hq
    have := k.x
    have := k.y
    exact ⟨by omega, by omega⟩
  have hh := run_hullC (s := c' :: (r ++ [.lst (ps.map pD)])) (k := r.length + 1) (ps := ps) at_hd (by omega) (by omega) b60
  have hpos : 0 < ps.length := by omega
  refine ⟨hullP ps, c', ?_, P', hull_pc hpos (by omega) fun q hq => (b60 q hq).b20, Nat.le_trans (hullP_len hpos) (by omega), fun q hq => hb q ((sortU_mem q ps).mp ((hullP_is hpos).sub q hq))⟩
  unfold F__law_piece m__law_piece
  simp only [pD] at el
  simp only [pD]
  simp! only [r1, hn, hr, el, hh]
  exact cut_hd (P'.cl _) (by simp only [cl_tup, clL_pD])
end

/-! the law's strict test -/
/-! sums, turning over, shifting: the program's and the law's -/
open GM (P2 addP subP negP)
section
variable {s : S}
def sumsP (A B : List P2) : List P2 := A.flatMap fun a => B.map fun b => addP a b
theorem sumsP_mem {A B : List P2} {p : P2} : p ∈ sumsP A B ↔ ∃ a ∈ A, ∃ b ∈ B, p = addP a b := by
  unfold sumsP
  rw [List.mem_flatMap]
  constructor
  · rintro ⟨a, ha, h⟩
    obtain ⟨b, hb, rfl⟩ := List.mem_map.mp h
    exact ⟨a, ha, b, hb, rfl⟩
  · rintro ⟨a, ha, b, hb, rfl⟩
    exact ⟨a, ha, List.mem_map.mpr ⟨b, hb, rfl⟩⟩
theorem sumsP_len : ∀ (A B : List P2), (sumsP A B).length = A.length * B.length
  | [], B => by simp [sumsP]
  | a :: A, B => by
    have := sumsP_len A B
    unfold sumsP at this ⊢
    rw [List.flatMap_cons, List.length_append, this, List.length_map, List.length_cons, Nat.add_mul, Nat.one_mul]
    omega
theorem sumsP_pos {A B : List P2} (a0 : 0 < A.length) (b0 : 0 < B.length) : 0 < (sumsP A B).length := by
  rw [sumsP_len]
  exact Nat.mul_pos a0 b0
theorem foldl_sums (B : List P2) : ∀ (A f : List P2), A.foldl (fun f a => f ++ B.map (addP a)) f = f ++ sumsP A B
  | [], f => by simp [sumsP]
  | a :: A, f => by
    rw [List.foldl_cons, foldl_sums B A]
    unfold sumsP
    rw [List.flatMap_cons, List.append_assoc]
theorem neg_len (A : List P2) : (A.map negP).length = A.length := List.length_map ..
theorem neg_comp {A : List P2} {env : PL.Env} {g : D → PL.Env → M PL.Env} {e : PL.Env → M D} {vs : List Nat} (hz : A.length ≤ 100000) (h0 : varM 0 env s = .ok (.tup (A.map pD)) s) (h : ∀ a ∈ A, turnC g yesT e (wipeE env vs) (pD a) s = .ok (pD (negP a)) s) : compF (srcM (varM 0)) g yesT e vs env s = .ok (.vls ((A.map negP).map pD)) s := by
  have hc := compF_enc (s := s) (enc := pD) (out := fun a => pD (negP a)) (l := A) (ma := varM 0) (g := g) (t := yesT) (e := e) (vs := vs) (env := env) (d0 := .tup (A.map pD)) h0 (srcD_tup _) hz h
  rw [List.map_map]
  exact hc
end

/-! two segments, two pieces that have a point in common: the law's own test -/
open GM (P2 area Lt nth nxt IsHull Seg Bw Edge Fn sc scL In inP Str meetP)
section
variable {s : S}
def meetS (a b c d : T3) : Bool := (onS a c d || (onS b c d || (onS c a b || onS d a b))) || (decide (sgn (dt a b c) * sgn (dt a b d) < 0) && decide (sgn (dt c d a) * sgn (dt c d b) < 0))
theorem mul_sgn (x y : Int) : MulOk (sgn x) (sgn y) := mk2 (sgn_bt x) (sgn_bt y) (by decide) (by decide)
theorem run_meet {a b c d : T3} (ha : B3 a) (hb : B3 b) (hc : B3 c) (hd : B3 d) : F__law_meet [t3 a, t3 b, t3 c, t3 d] s = .ok (.bl (meetS a b c d)) s := by
  have o1 := fun s => run_on_ (s := s) ha hc hd
  have o2 := fun s => run_on_ (s := s) hb hc hd
  have o3 := fun s => run_on_ (s := s) hc ha hb
  have o4 := fun s => run_on_ (s := s) hd ha hb
  have d1 := fun s => run_det (s := s) ha hb hc
  have d2 := fun s => run_det (s := s) ha hb hd
  have d3 := fun s => run_det (s := s) hc hd ha
  have d4 := fun s => run_det (s := s) hc hd hb
  unfold F__law_meet m__law_meet meetS
  cases e1 : onS a c d with
  | true => simp! only [o1, e1]
  | false =>
    cases e2 : onS b c d with
    | true => simp! only [o1, o2, e1, e2]
    | false =>
      cases e3 : onS c a b with
      | true => simp! only [o1, o2, o3, e1, e2, e3]
      | false =>
        cases e4 : onS d a b with
        | true => simp! only [o1, o2, o3, o4, e1, e2, e3, e4]
        | false => simp! only [o1, o2, o3, o4, d1, d2, d3, d4, e1, e2, e3, e4, mulD_int (mul_sgn _ _)]
theorem sgn_prod {x y : Int} : sgn x * sgn y < 0 ↔ x * y < 0 := by
  constructor
  · intro h
    rcases GM.neg_prod h with ⟨h1, h2⟩ | ⟨h1, h2⟩
    · rw [sgn_n] at h1
      rw [sgn_p] at h2
      have := Int.mul_pos (show 0 < -x by omega) h2
      rw [Int.neg_mul] at this
      omega
    · rw [sgn_p] at h1
      rw [sgn_n] at h2
      have := Int.mul_pos h1 (show 0 < -y by omega)
      rw [Int.mul_neg] at this
      omega
  · intro h
    rcases GM.neg_prod h with ⟨h1, h2⟩ | ⟨h1, h2⟩
    · rw [← sgn_n] at h1
      rw [← sgn_p] at h2
      have := Int.mul_pos (show 0 < -sgn x by omega) h2
      rw [Int.neg_mul] at this
      omega
    · rw [← sgn_p] at h1
      rw [← sgn_n] at h2
      have := Int.mul_pos h1 (show 0 < -sgn y by omega)
      rw [Int.mul_neg] at this
      omega
theorem at_meet {L : Int} {a b c d : T3} {A B C E : P2} (ha : At L a A) (hb : At L b B) (hc : At L c C) (hd : At L d E) : meetS a b c d = true ↔ meetP A B C E := by
  unfold meetS meetP
  rw [Bool.or_eq_true, Bool.or_eq_true, Bool.or_eq_true, Bool.or_eq_true, Bool.and_eq_true, decide_eq_true_eq, decide_eq_true_eq, at_on ha hc hd, at_on hb hc hd, at_on hc ha hb, at_on hd ha hb, at_dt ha hb hc, at_dt ha hb hd, at_dt hc hd ha, at_dt hc hd hb, sgn_prod, sgn_prod]
  constructor
  · rintro ((h | h | h | h) | h)
    · exact .inl h
    · exact .inr (.inl h)
    · exact .inr (.inr (.inl h))
    · exact .inr (.inr (.inr (.inl h)))
    · exact .inr (.inr (.inr (.inr h)))
  · rintro (h | h | h | h | h)
    · exact .inl (.inl h)
    · exact .inl (.inr (.inl h))
    · exact .inl (.inr (.inr (.inl h)))
    · exact .inl (.inr (.inr (.inr h)))
    · exact .inr h
/-- one side of the first against all of the second -/
def rowS (u o : List T3) (k : Nat) : Bool := (List.range o.length).any fun j => meetS (gT u (backN u.length k 1)) (gT u k) (gT o (backN o.length j 1)) (gT o j)
def commonS (u o : List T3) : Bool := ((u.any fun p => inS p o) || (o.any fun p => inS p u)) || (List.range u.length).any fun k => rowS u o k
theorem AtL.mem {L : Int} {cs : List T3} {C : List P2} (h : AtL L cs C) {c : T3} (hc : c ∈ cs) : ∃ q ∈ C, At L c q := by
  obtain ⟨i, hi, e⟩ := List.getElem_of_mem hc
  have hi' : i < C.length := by rw [← h.len]; exact hi
  refine ⟨nth C i, GM.nth_mem hi', ?_⟩
  have := h.get i hi'
  have eg : gT cs i = c := by
    unfold gT
    rw [List.getD_eq_getElem?_getD, List.getElem?_eq_getElem hi, e]
    rfl
  rw [eg] at this
  exact this
theorem AtL.mem2 {L : Int} {cs : List T3} {C : List P2} (h : AtL L cs C) {q : P2} (hq : q ∈ C) : ∃ c ∈ cs, At L c q := by
  obtain ⟨i, hi, e⟩ := GM.mem_nth hq
  refine ⟨gT cs i, gT_mem (by rw [h.len]; exact hi), ?_⟩
  rw [← e]
  exact h.get i hi
theorem nxt_b {C : List P2} {k : Nat} (h : k < C.length) : ∃ i, i < C.length ∧ backN C.length (nxt C k) 1 = i ∧ i = k := by
  refine ⟨k, h, ?_, rfl⟩
  unfold nxt backN
  split <;> split <;> omega
theorem at_common {L : Int} {u o : List T3} {A B : List P2} (hu : AtL L u A) (ho : AtL L o B) (hA : IsHull A A) (hB : IsHull B B) : commonS u o = true ↔ ∃ k x, 0 < k ∧ In (scL k A) x ∧ In (scL k B) x := by
  rw [GM.polys_meet hA hB]
  unfold commonS
  rw [Bool.or_eq_true, Bool.or_eq_true, List.any_eq_true, List.any_eq_true, List.any_eq_true]
  constructor
  · rintro ((⟨p, hp, h⟩ | ⟨p, hp, h⟩) | ⟨k, hk, h⟩)
    · obtain ⟨q, hq, aq⟩ := hu.mem hp
      exact .inl ⟨q, hq, (GM.inP_iff hB).mp ((at_in aq ho hB.pos).mp h)⟩
    · obtain ⟨q, hq, aq⟩ := ho.mem hp
      exact .inr (.inl ⟨q, hq, (GM.inP_iff hA).mp ((at_in aq hu hA.pos).mp h)⟩)
    · have hk := List.mem_range.mp hk
      unfold rowS at h
      obtain ⟨j, hj, h⟩ := List.any_eq_true.mp h
      have hj := List.mem_range.mp hj
      rw [hu.len] at hk h
      rw [ho.len] at hj h
      have b1 := back1_lt hk
      have b2 := back1_lt hj
      refine .inr (.inr ⟨_, b1, _, b2, ?_⟩)
      rw [nxt_back1 hk, nxt_back1 hj]
      exact (at_meet (hu.get _ b1) (hu.get _ hk) (ho.get _ b2) (ho.get _ hj)).mp h
  · rintro (⟨a, ha, h⟩ | ⟨b, hb, h⟩ | ⟨i, hi, j, hj, h⟩)
    · obtain ⟨c, hc, ac⟩ := hu.mem2 ha
      exact .inl (.inl ⟨c, hc, (at_in ac ho hB.pos).mpr ((GM.inP_iff hB).mpr h)⟩)
    · obtain ⟨c, hc, ac⟩ := ho.mem2 hb
      exact .inl (.inr ⟨c, hc, (at_in ac hu hA.pos).mpr ((GM.inP_iff hA).mpr h)⟩)
    · have ni := GM.nxt_lt hi
      have nj := GM.nxt_lt hj
      refine .inr ⟨nxt A i, List.mem_range.mpr (by rw [hu.len]; exact ni), ?_⟩
      unfold rowS
      refine List.any_eq_true.mpr ⟨nxt B j, List.mem_range.mpr (by rw [ho.len]; exact nj), ?_⟩
      obtain ⟨i', _, e1, e2⟩ := nxt_b hi
      obtain ⟨j', _, f1, f2⟩ := nxt_b hj
      rw [hu.len, ho.len, e1, e2, f1, f2]
      exact (at_meet (hu.get _ hi) (hu.get _ ni) (ho.get _ hj) (ho.get _ nj)).mpr h
end

/-! apart: the program's, the law's; a point of both -/
open GM (P2 area nth nxt IsHull Seg Fn Q2 Cs sc scL In clipC stepC ev meetP hi lo)
section
variable {s : S}
theorem compM_enc {α : Type} {enc out : α → D} {l : List α} {ma : PL.Env → M D} {g : D → PL.Env → M PL.Env} {t : PL.Env → M Bool} {e : PL.Env → M D} {vs : List Nat} {env : PL.Env} {d0 : D} (h0 : ma env s = .ok d0 s) (hs : srcD d0 s = .ok ⟨l.map enc, none⟩ s) (hz : l.length ≤ 100000) (h : ∀ a ∈ l, turnC g t e (wipeE env vs) (enc a) s = .ok (out a) s) :
    compM (srcM ma) g t e vs env s = .ok (.ptr s.length) (s ++ [.lst (l.map out)]) := by
  rw [compM_run, srcM_run, h0, on_ok, hs, on_ok]
  have : szM (l.map enc).length s = .ok () s := szM_run (by rw [List.length_map]; exact hz)
  simp only []
  rw [this, on_ok, coll_enc (r := ⟨l.map enc, none⟩) trivial h, on_ok]
def clipQ (H : List P2) (a b : Pt) : Option Cs := clipC 0 GM.start ((GM.planesP H).map (vq (segQ a b)))
theorem isn_part (c : Option Cs) : isnD (partD c) s = .ok (.bl c.isNone) s := by
  cases c with
  | none => rfl
  | some c => rfl
theorem run_apart {H : List P2} {a b : Pt} (h : PcOk H) (ha : BP a) (hb : BP b) : F_are_apart [ptD a, ptD b, .tup (H.map pD)] s = .ok (.bl (clipQ H a b).isNone) s := by
  have e1 := run_seg (s := s) ha hb
  have e2 := run_planesP (s := s) h
  have e3 := run_partP (s := s) (dep := 0) h (seg_b5 ha hb)
  unfold F_are_apart m_are_apart clipQ
  simp! only [e1, e2, e3, isn_part]
/-- the segment's ends at its divisor -/
def eA (a b : Pt) : P2 := ((segQ a b).1, (segQ a b).2.1)
def eB (a b : Pt) : P2 := ((segQ a b).2.2.1, (segQ a b).2.2.2.1)
theorem ev_pv {H : List P2} {a b : Pt} {n d : Int} (f : Fn) : ev (vq (segQ a b) f) n d = GM.pvw f ((d - n) * (eA a b).1 + n * (eB a b).1) ((d - n) * (eA a b).2 + n * (eB a b).2) (d * lcmQ a b) := by
  have : (segQ a b).2.2.2.2 = lcmQ a b := rfl
  unfold GM.ev vq GM.pvw eA eB
  rw [this]
  simp only []
  grind
/-- a point that is in all planes is one of both -/
theorem clip_in {H : List P2} {a b : Pt} {n d : Int} (h : PcOk H) (hw : 0 < lcmQ a b) (hd : 0 < d) : (∀ q ∈ (GM.planesP H).map (vq (segQ a b)), 0 ≤ ev q n d) ↔ In (scL d (scL (lcmQ a b) H)) ((d - n) * (eA a b).1 + n * (eB a b).1, (d - n) * (eA a b).2 + n * (eB a b).2) := by
  rw [GM.scL_scL, ← GM.planes_in h.hull (Int.mul_pos hd hw)]
  simp only [List.mem_map, forall_exists_index, and_imp, forall_apply_eq_imp_iff₂, ev_pv (H := H)]
theorem clip_common {H : List P2} {a b : Pt} (h : PcOk H) (hw : 0 < lcmQ a b) : (clipQ H a b).isSome = true ↔ ∃ k x, 0 < k ∧ Seg x (sc k (eA a b)) (sc k (eB a b)) ∧ In (scL k (scL (lcmQ a b) H)) x := by
  unfold clipQ
  rw [GM.clip0_iff]
  constructor
  · rintro ⟨n, d, hd, h0, h1, hp⟩
    exact ⟨d, _, hd, GM.seg_at h0 h1, (clip_in h hw hd).mp hp⟩
  · rintro ⟨k, x, hk, hs, hx⟩
    obtain ⟨m, n, hm, hn, hmn, e⟩ := GM.seg_share hs
    refine ⟨n, m + n, hmn, hn, by omega, fun q hq => ?_⟩
    obtain ⟨f, hf, rfl⟩ := List.mem_map.mp hq
    have hx2 := (GM.planes_in h.hull (Int.mul_pos hk hw) (x := x.1) (y := x.2)).mpr (by rw [← GM.scL_scL]; exact hx) f hf
    have e1 := e (f.1, f.2.1, k * lcmQ a b * f.2.2)
    have t1 : GM.cv (f.1, f.2.1, k * lcmQ a b * f.2.2) x = GM.pvw f x.1 x.2 (k * lcmQ a b) := by
      unfold GM.cv GM.pvw
      simp only []
      rw [Int.mul_comm (k * lcmQ a b)]
    have t2 : ∀ p : P2, GM.cv (f.1, f.2.1, k * lcmQ a b * f.2.2) (sc k p) = k * (f.1 * p.1 + f.2.1 * p.2 - f.2.2 * lcmQ a b) := fun p => by
      unfold GM.cv GM.sc
      simp only []
      grind
    rw [t1, t2, t2] at e1
    have t3 : m * (k * (f.1 * (eA a b).1 + f.2.1 * (eA a b).2 - f.2.2 * lcmQ a b)) + n * (k * (f.1 * (eB a b).1 + f.2.1 * (eB a b).2 - f.2.2 * lcmQ a b)) = k * ev (vq (segQ a b) f) n (m + n) := by
      have : (segQ a b).2.2.2.2 = lcmQ a b := rfl
      unfold GM.ev vq eA eB
      rw [this]
      simp only []
      grind
    rw [t3] at e1
    have := Int.mul_nonneg (Int.le_of_lt hmn) hx2
    rw [e1] at this
    exact GM.nonneg_of_mul hk this
/-! the law's -/
def apartS (p q : T3) (cs : List T3) : Bool := if (inS p cs || inS q cs) = true then false else !((List.range cs.length).any fun k => meetS p q (gT cs (backN cs.length k 1)) (gT cs k))
theorem run_lapart {p q : T3} {cs : List T3} (c0 : 0 < cs.length) (cz : cs.length ≤ 100000) (hp : B3 p) (hq : B3 q) (bc : ∀ c ∈ cs, B3 c) : F__law_apart [t3 p, t3 q, .vls (cs.map t3)] s = .ok (.bl (apartS p q cs)) s := by
  have i1 := fun s => run_in (s := s) c0 cz hp bc
  have i2 := fun s => run_in (s := s) c0 cz hq bc
  have hc := compF_rng (s := s) (g := gNm 3) (t := yesT) (e := E__law_apart_1) (vs := [3]) (env := [some (t3 p), some (t3 q), some (.vls (cs.map t3)), none]) (ma := consA (callM (fun1 lenD) (consA (varM 2) nilA)) nilA) (n := cs.length) (out := fun k => .bl (meetS p q (gT cs (backN cs.length k 1)) (gT cs k))) (by simp! only [List.length_map]) cz (fun k hk => by
    have k1 : atI (cs.map t3) ((k : Int) - 1) = _ := back_at (l := cs) (k := k) (j := 1) hk (by omega)
    have k0 := gT_at (cs := cs) hk
    have d := fun s => run_meet (s := s) hp hq (bc _ (gT_mem (back1_lt hk))) (bc _ (gT_mem hk))
    unfold turnC
    simp! only [E__law_apart_1, wipeE, k0, k1, d])
  unfold F__law_apart m__law_apart apartS
  cases e1 : inS p cs with
  | true => simp! only [i1, e1]
  | false =>
    cases e2 : inS q cs with
    | true => simp! only [i1, i2, e1, e2]
    | false => simp! only [i1, i2, e1, e2, hc, any_mapV]
theorem apart_is {H : List P2} {a b : Pt} (h : PcOk H) (ha : BP a) (hb : BP b) : (clipQ H a b).isNone = apartS (scaleQ a) (scaleQ b) (H.map e3) := by
  have hw := lcmQ_pos ha hb
  have pa : 0 < a.1.2 * a.2.2 := Int.mul_pos ha.x0 ha.y0
  have pb : 0 < b.1.2 * b.2.2 := Int.mul_pos hb.x0 hb.y0
  obtain ⟨ea, eb⟩ := seg_ends (a := a) (b := b)
  have hab := Int.mul_pos pa pb
  have A : At (a.1.2 * a.2.2 * (b.1.2 * b.2.2) * lcmQ a b) (scaleQ a) (sc (a.1.2 * a.2.2 * (b.1.2 * b.2.2)) (eA a b)) := by
    have := (ea.at ha.x0 ha.y0 hw).sc pb
    rw [GM.sc_sc] at this
    have e1 : b.1.2 * b.2.2 * (a.1.2 * a.2.2 * lcmQ a b) = a.1.2 * a.2.2 * (b.1.2 * b.2.2) * lcmQ a b := by grind
    have e2 : b.1.2 * b.2.2 * (a.1.2 * a.2.2) = a.1.2 * a.2.2 * (b.1.2 * b.2.2) := Int.mul_comm _ _
    rw [e1, e2] at this
    exact this
  have B : At (a.1.2 * a.2.2 * (b.1.2 * b.2.2) * lcmQ a b) (scaleQ b) (sc (a.1.2 * a.2.2 * (b.1.2 * b.2.2)) (eB a b)) := by
    have := (eb.at hb.x0 hb.y0 hw).sc pa
    rw [GM.sc_sc, ← Int.mul_assoc] at this
    exact this
  have C := atL_e3 (Int.mul_pos hab hw) H
  rw [← GM.scL_scL] at C
  generalize a.1.2 * a.2.2 * (b.1.2 * b.2.2) = g at *
  have hH := GM.hull_sc hw h.hull
  have l1 : (H.map e3).length = H.length := List.length_map ..
  have l2 : (scL (lcmQ a b) H).length = H.length := GM.scL_len _ _
  have key : (clipQ H a b).isSome = true ↔ apartS (scaleQ a) (scaleQ b) (H.map e3) = false := by
    rw [clip_common h hw, GM.seg_meets hH]
    have z1 : inS (scaleQ a) (H.map e3) = true ↔ In (scL (lcmQ a b) H) (eA a b) := by
      rw [at_in A C (by rw [GM.scL_len, l2]; exact h.hull.pos), GM.inP_iff (GM.hull_sc hab hH), GM.in_sc hab]
    have z2 : inS (scaleQ b) (H.map e3) = true ↔ In (scL (lcmQ a b) H) (eB a b) := by
      rw [at_in B C (by rw [GM.scL_len, l2]; exact h.hull.pos), GM.inP_iff (GM.hull_sc hab hH), GM.in_sc hab]
    have z3 : ∀ {i j : Nat}, i < H.length → j < H.length → (meetS (scaleQ a) (scaleQ b) (gT (H.map e3) i) (gT (H.map e3) j) = true ↔ meetP (eA a b) (eB a b) (nth (scL (lcmQ a b) H) i) (nth (scL (lcmQ a b) H) j)) := fun {i j} hi hj => by
      have gi := C.get i (by rw [GM.scL_len, l2]; exact hi)
      have gj := C.get j (by rw [GM.scL_len, l2]; exact hj)
      rw [GM.nth_sc g (by rw [l2]; exact hi)] at gi
      rw [GM.nth_sc g (by rw [l2]; exact hj)] at gj
      rw [at_meet A B gi gj, GM.meet_sc hab]
    unfold apartS
    rw [← z1, ← z2, l2, l1]
    cases e1 : inS (scaleQ a) (H.map e3) with
    | true => simp
    | false =>
      cases e2 : inS (scaleQ b) (H.map e3) with
      | true => simp
      | false =>
        simp only [Bool.false_eq_true, false_or, Bool.or_false, if_false, Bool.not_eq_false', List.any_eq_true]
        constructor
        · rintro ⟨i, hi, hm⟩
          have hn := GM.nxt_lt (H := H) hi
          rw [GM.nxt_sc] at hm
          refine ⟨nxt H i, List.mem_range.mpr hn, ?_⟩
          obtain ⟨i', _, x1, x2⟩ := nxt_b hi
          rw [x1, x2]
          exact (z3 hi hn).mpr hm
        · rintro ⟨k, hk, hm⟩
          have hk2 := List.mem_range.mp hk
          have hb1 := back1_lt hk2
          refine ⟨_, hb1, ?_⟩
          rw [GM.nxt_sc, nxt_back1 hk2]
          exact (z3 hb1 hk2).mp hm
  cases e : clipQ H a b with
  | some c =>
    rw [e] at key
    exact (key.mp rfl).symm
  | none =>
    rw [e] at key
    cases e2 : apartS (scaleQ a) (scaleQ b) (H.map e3) with
    | true => rfl
    | false => exact absurd (key.mpr e2) (by simp)
end

/-! lines between, points of both -/
open GM (P2 area nth nxt IsHull Seg Fn Q2 Cs sc scL In clipC stepC ev meetP hi lo Sep dirQ lowP gcdZ)
section
variable {s : S}
theorem run_pratio {n d : Int} (h : d ≠ 0) (b : Bt 9000 d) : F_ratio [.int n, .int d] s = .ok (pD (rat n d)) s := by
  have hn := ratC_ne (n := n) h
  have hb := ratC_bt (n := n) h b
  have e : pD (rat n d) = .tup [.int (n / ratC n d), .int (d / ratC n d)] := rfl
  rw [e]
  unfold F_ratio m_ratio
  by_cases hd : d < 0
  · have hc : ratC n d = -((Nat.gcd n.natAbs d.natAbs : Nat) : Int) := by unfold ratC; rw [if_pos hd]
    simp! only [hd, ← hc, fdivD_dvd hn hb (ratC_n n d), fdivD_dvd hn hb (ratC_d n d)]
  · have hc : ratC n d = ((Nat.gcd n.natAbs d.natAbs : Nat) : Int) := by unfold ratC; rw [if_neg hd]
    simp! only [hd, ← hc, fdivD_dvd hn hb (ratC_n n d), fdivD_dvd hn hb (ratC_d n d)]
/-! ### sizes -/
structure BS (e : S5) : Prop where
  a : Bt 50 e.1
  b : Bt 50 e.2.1
  c : Bt 50 e.2.2.1
  d : Bt 50 e.2.2.2.1
  w : Bt 50 e.2.2.2.2
theorem seg_bs {a b : Pt} (ha : SmP a) (hb : SmP b) : BS (segQ a b) := by
  have e17 : ∀ {i : Int}, i.natAbs ≤ 100000 → Bt 17 i := fun h => Nat.lt_of_le_of_lt h (by decide)
  have e7 : ∀ {i : Int}, 0 < i ∧ i ≤ 100 → Bt 7 i := fun {i} h => Nat.lt_of_le_of_lt (show i.natAbs ≤ 100 by omega) (by decide)
  have hw : Bt 28 (lcmQ a b) := lcm4_bt (e7 ha.xd) (e7 ha.yd) (e7 hb.xd) (e7 hb.yd)
  have mk : ∀ {x d : Int}, x.natAbs ≤ 100000 → 0 < d ∧ d ≤ 100 → Bt 50 (x * (lcmQ a b / d)) := fun h k => ((e17 h).mul (div_bt hw k.1)).mono (by decide)
  exact ⟨mk ha.xn ha.xd, mk ha.yn ha.yd, mk hb.xn hb.xd, mk hb.yn hb.yd, hw.mono (by decide)⟩
structure FS (f : Fn) : Prop where
  u : Bt 32 f.1
  v : Bt 32 f.2.1
  c : Bt 64 f.2.2
theorem low_bt {x y g : Int} {n : Nat} (hg : 0 < g) (e : g * y = x) (h : Bt n x) : Bt n y := h.le (by
  rw [← e, Int.natAbs_mul]
  exact Nat.le_mul_of_pos_left _ (by omega))
theorem plane_fs {H : List P2} (h : PcOk H) (hb : ∀ q ∈ H, C30 q) : ∀ f ∈ GM.planesP H, FS f := fun f hf => by
  have h0 := h.hull.pos
  have one : ∀ {i : Int}, i.natAbs ≤ 1 → Bt 32 i := fun h => bt_one (by decide) h
  have lx := (GM.lo_is (l := GM.xsQ H) (by rw [GM.xs_len]; exact h0)).1
  have hx := (GM.hi_is (l := GM.xsQ H) (by rw [GM.xs_len]; exact h0)).1
  have ly := (GM.lo_is (l := GM.ysQ H) (by rw [GM.ys_len]; exact h0)).1
  have hy := (GM.hi_is (l := GM.ysQ H) (by rw [GM.ys_len]; exact h0)).1
  obtain ⟨q1, m1, e1⟩ := List.mem_map.mp lx
  obtain ⟨q2, m2, e2⟩ := List.mem_map.mp hx
  obtain ⟨q3, m3, e3⟩ := List.mem_map.mp ly
  obtain ⟨q4, m4, e4⟩ := List.mem_map.mp hy
  rcases GM.planes_mem.mp hf with h | ⟨h1, q, hq, rfl⟩
  · unfold GM.boxF at h
    simp only [List.mem_cons, List.not_mem_nil, or_false] at h
    rcases h with rfl | rfl | rfl | rfl
    · exact ⟨one (show (1 : Int).natAbs ≤ 1 by decide), one (show (0 : Int).natAbs ≤ 1 by decide), by show Bt 64 (GM.lo (GM.xsQ H)); rw [← e1]; exact (hb _ m1).x.mono (by decide)⟩
    · exact ⟨one (show (-1 : Int).natAbs ≤ 1 by decide), one (show (0 : Int).natAbs ≤ 1 by decide), by show Bt 64 (-GM.hi (GM.xsQ H)); rw [← e2]; exact (hb _ m2).x.neg.mono (by decide)⟩
    · exact ⟨one (show (0 : Int).natAbs ≤ 1 by decide), one (show (1 : Int).natAbs ≤ 1 by decide), by show Bt 64 (GM.lo (GM.ysQ H)); rw [← e3]; exact (hb _ m3).y.mono (by decide)⟩
    · exact ⟨one (show (0 : Int).natAbs ≤ 1 by decide), one (show (-1 : Int).natAbs ≤ 1 by decide), by show Bt 64 (-GM.hi (GM.ysQ H)); rw [← e4]; exact (hb _ m4).y.neg.mono (by decide)⟩
  · obtain ⟨i, hi, rfl⟩ := GM.sidesQ_mem.mp hq
    have b1 := hb _ (GM.nth_mem hi)
    have b2 := hb _ (GM.nth_mem (GM.nxt_lt hi))
    have ne := h.ne h1 _ hq
    obtain ⟨g, hg, k⟩ := GM.sideF_mul ne
    obtain ⟨k1, k2, k3⟩ := k _ rfl
    have u := low_bt hg k1 (b1.y.sub b2.y)
    have v := low_bt hg k2 (b2.x.sub b1.x)
    refine ⟨u.mono (by decide), v.mono (by decide), ?_⟩
    rw [k3]
    exact ((u.mul b1.x).add (v.mul b1.y)).mono (by decide)
theorem vq_bs {e : S5} {f : Fn} (he : BS e) (hf : FS f) : Bt 116 (vq e f).1 ∧ Bt 116 (vq e f).2 := by
  have a1 := (hf.u.mul he.a).add (hf.v.mul he.b)
  have a2 := (hf.u.mul he.c).add (hf.v.mul he.d)
  have a3 := (hf.c.mul he.w).mono (n := 115) (by decide)
  exact ⟨((a1.mono (n := 115) (by decide)).sub a3), ((a2.mono (n := 115) (by decide)).sub a3)⟩
structure CsB (c : Cs) : Prop where
  l : Bt 120 c.l
  u : Bt 120 c.u
  h : Bt 120 c.h
  o : Bt 120 c.o
theorem step_b {dep : Int} {q : Q2} {c c' : Cs} (h1 : Bt 116 q.1) (h2 : Bt 116 q.2) (hc : CsB c) (h : stepC dep c q = some c') : CsB c' := by
  have u1 : Bt 120 (-q.1) := h1.neg.mono (by decide)
  have u2 : Bt 120 q.1 := h1.mono (by decide)
  have u3 : Bt 120 (q.2 - q.1) := (h2.sub h1).mono (by decide)
  have u4 : Bt 120 (q.1 - q.2) := (h1.sub h2).mono (by decide)
  unfold stepC at h
  split at h
  · split at h
    · cases h
    · split at h
      · cases h
        exact ⟨u1, u3, hc.h, hc.o⟩
      · cases h
        exact hc
  · split at h
    · cases h
      exact ⟨hc.l, hc.u, u2, u4⟩
    · cases h
      exact hc
theorem clip_b {dep : Int} : ∀ {l : List Q2} {c c' : Cs}, (∀ q ∈ l, Bt 116 q.1 ∧ Bt 116 q.2) → CsB c → clipC dep c l = some c' → CsB c'
  | [], c, c', _, hc, h => by
    unfold clipC at h
    split at h
    · cases h
    · cases h
      exact hc
  | q :: l, c, c', hl, hc, h => by
    unfold clipC at h
    cases e : stepC dep c q with
    | none => rw [e] at h; cases h
    | some c1 =>
      rw [e] at h
      obtain ⟨b1, b2⟩ := hl q List.mem_cons_self
      exact clip_b (fun x hx => hl x (List.mem_cons_of_mem _ hx)) (step_b b1 b2 hc e) h
theorem clipQ_b {H : List P2} {a b : Pt} {c : Cs} (h : PcOk H) (hb : ∀ q ∈ H, C30 q) (ha : SmP a) (hb' : SmP b) (e : clipQ H a b = some c) : CsB c := by
  refine clip_b (fun q hq => ?_) ⟨bt_one (by decide) (by decide), bt_one (by decide) (by decide), bt_one (by decide) (by decide), bt_one (by decide) (by decide)⟩ e
  obtain ⟨f, hf, rfl⟩ := List.mem_map.mp hq
  exact vq_bs (seg_bs ha hb') (plane_fs h hb f hf)
/-! ### a point of both -/
def cpX (a b : Pt) (c : Cs) : Int := (eA a b).1 * (c.u - c.l) + (eB a b).1 * c.l
def cpY (a b : Pt) (c : Cs) : Int := (eA a b).2 * (c.u - c.l) + (eB a b).2 * c.l
def cpQ (a b : Pt) (c : Cs) : Pt := (rat (cpX a b c) (lcmQ a b * c.u), rat (cpY a b c) (lcmQ a b * c.u))
theorem cp_b {a b : Pt} {c : Cs} (ha : SmP a) (hb : SmP b) (hw : 0 < lcmQ a b) (hc : CsB c) (hu : 0 < c.u) : BP (cpQ a b c) ∧ Bt 172 (cpX a b c) ∧ Bt 172 (cpY a b c) ∧ Bt 170 (lcmQ a b * c.u) := by
  have he := seg_bs ha hb
  have wu := Int.mul_pos hw hu
  have ne : lcmQ a b * c.u ≠ 0 := by omega
  have bw : Bt 170 (lcmQ a b * c.u) := Bt.mul (show Bt 50 (lcmQ a b) from he.w) hc.u
  have bx : Bt 172 (cpX a b c) := (((Bt.mul (show Bt 50 (eA a b).1 from he.a) (hc.u.sub hc.l)).add ((Bt.mul (show Bt 50 (eB a b).1 from he.c) hc.l).mono (by decide)))).mono (by decide)
  have by_ : Bt 172 (cpY a b c) := (((Bt.mul (show Bt 50 (eA a b).2 from he.b) (hc.u.sub hc.l)).add ((Bt.mul (show Bt 50 (eB a b).2 from he.d) hc.l).mono (by decide)))).mono (by decide)
  exact ⟨⟨(rat_bt1 ne bx).mono (by decide), (rat_bt2 ne bw).mono (by decide), (rat_bt1 ne by_).mono (by decide), (rat_bt2 ne bw).mono (by decide), rat_pos ne, rat_pos ne⟩, bx, by_, bw⟩
theorem ix_part {c : Cs} : ixD (partD (some c)) (.int 0) s = .ok (pD (c.l, c.u)) s := rfl
theorem run_pointat {a b : Pt} {c : Cs} (ha : SmP a) (hb : SmP b) (hw : 0 < lcmQ a b) (hc : CsB c) (hu : 0 < c.u) : F_point_at [s5 (segQ a b), pD (c.l, c.u)] s = .ok (ptD (cpQ a b c)) s := by
  have he := seg_bs ha hb
  have wu := Int.mul_pos hw hu
  have ne : lcmQ a b * c.u ≠ 0 := by omega
  obtain ⟨_, bx, by_, bw⟩ := cp_b ha hb hw hc hu
  have m1 : MulOk (eA a b).1 (c.u - c.l) := mk2 (show Bt 50 (eA a b).1 from he.a) (hc.u.sub hc.l) (by decide) (by decide)
  have m2 : MulOk (eB a b).1 c.l := mk2 (show Bt 50 (eB a b).1 from he.c) hc.l (by decide) (by decide)
  have m3 : MulOk (eA a b).2 (c.u - c.l) := mk2 (show Bt 50 (eA a b).2 from he.b) (hc.u.sub hc.l) (by decide) (by decide)
  have m4 : MulOk (eB a b).2 c.l := mk2 (show Bt 50 (eB a b).2 from he.d) hc.l (by decide) (by decide)
  have m5 : MulOk (lcmQ a b) c.u := mk2 (show Bt 50 (lcmQ a b) from he.w) hc.u (by decide) (by decide)
  have r1 := fun s => run_pratio (s := s) (n := cpX a b c) (d := lcmQ a b * c.u) ne (bw.mono (by decide))
  have r2 := fun s => run_pratio (s := s) (n := cpY a b c) (d := lcmQ a b * c.u) ne (bw.mono (by decide))
  have e : s5 (segQ a b) = .tup [.int (eA a b).1, .int (eA a b).2, .int (eB a b).1, .int (eB a b).2, .int (lcmQ a b)] := rfl
  have e2 : pD (c.l, c.u) = .tup [.int c.l, .int c.u] := rfl
  have x1 : (eA a b).1 * (c.u - c.l) + (eB a b).1 * c.l = cpX a b c := rfl
  have x2 : (eA a b).2 * (c.u - c.l) + (eB a b).2 * c.l = cpY a b c := rfl
  rw [e, e2]
  unfold F_point_at m_point_at
  simp! only [gTup5, mulD_int m1, mulD_int m2, mulD_int m3, mulD_int m4, mulD_int m5, x1, x2, r1, r2]
  rfl
theorem run_common_point {H : List P2} {a b : Pt} (h : PcOk H) (hb : ∀ q ∈ H, C30 q) (ha : SmP a) (hb' : SmP b) : F_common_point [ptD a, ptD b, .tup (H.map pD)] s = .ok (match clipQ H a b with | none => .non | some c => ptD (cpQ a b c)) s := by
  have e1 := run_seg (s := s) ha.bp hb'.bp
  have e2 := run_planesP (s := s) h
  have e3 := run_partP (s := s) (dep := 0) h (seg_b5 ha.bp hb'.bp)
  have hw := lcmQ_pos ha.bp hb'.bp
  have ec : clipC 0 GM.start ((GM.planesP H).map (vq (segQ a b))) = clipQ H a b := rfl
  rw [ec] at e3
  unfold F_common_point m_common_point
  cases e : clipQ H a b with
  | none =>
    rw [e] at e3
    simp! only [e1, e2, e3, isn_part, Option.isNone_none]
  | some c =>
    rw [e] at e3
    have z := GM.clip0 (show clipC 0 GM.start _ = some c from e)
    have e4 := run_pointat (s := s) ha hb' hw (clipQ_b h hb ha hb' e) z.1.1
    simp! only [e1, e2, e3, isn_part, Option.isNone_some, ix_part, e4]
theorem rat_eq {n d : Int} (h : d ≠ 0) : d * (rat n d).1 = (rat n d).2 * n := by
  have := (rat_is (n := n) h).eq
  rw [Int.mul_comm d, this, Int.mul_comm]
theorem cp_is {H : List P2} {a b : Pt} {c : Cs} (h : PcOk H) (ha : BP a) (hb : BP b) (e : clipQ H a b = some c) : inS (scaleQ (cpQ a b c)) (H.map e3) = true ∧ onS (scaleQ (cpQ a b c)) (scaleQ a) (scaleQ b) = true := by
  have hw := lcmQ_pos ha hb
  have z := GM.clip0 (show clipC 0 GM.start _ = some c from e)
  obtain ⟨⟨u0, _, l0, lu, _⟩, hl, _, _⟩ := z
  have hin := (clip_in h hw u0).mp hl
  have hseg : Seg ((c.u - c.l) * (eA a b).1 + c.l * (eB a b).1, (c.u - c.l) * (eA a b).2 + c.l * (eB a b).2) (sc c.u (eA a b)) (sc c.u (eB a b)) := GM.seg_at l0 lu
  have wu := Int.mul_pos hw u0
  have ne : lcmQ a b * c.u ≠ 0 := by omega
  have ex : (c.u - c.l) * (eA a b).1 + c.l * (eB a b).1 = cpX a b c := by unfold cpX; grind
  have ey : (c.u - c.l) * (eA a b).2 + c.l * (eB a b).2 = cpY a b c := by unfold cpY; grind
  rw [ex, ey] at hin hseg
  have p1 : 0 < (cpQ a b c).1.2 := rat_pos ne
  have p2 : 0 < (cpQ a b c).2.2 := rat_pos ne
  have g0 := Int.mul_pos p1 p2
  have q1 : lcmQ a b * c.u * (cpQ a b c).1.1 = (cpQ a b c).1.2 * cpX a b c := rat_eq ne
  have q2 : lcmQ a b * c.u * (cpQ a b c).2.1 = (cpQ a b c).2.2 * cpY a b c := rat_eq ne
  obtain ⟨C, eC⟩ : ∃ C, C = cpQ a b c := ⟨_, rfl⟩
  rw [← eC] at p1 p2 g0 q1 q2 ⊢
  have A : At (C.1.2 * C.2.2 * (lcmQ a b * c.u)) (scaleQ C) (sc (C.1.2 * C.2.2) (cpX a b c, cpY a b c)) := by
    refine ⟨lcmQ a b * c.u, wu, g0, ?_, ?_⟩
    · show lcmQ a b * c.u * (C.1.2 * C.2.2) = _
      exact Int.mul_comm _ _
    · unfold GM.sc
      refine Prod.ext ?_ ?_
      · show C.1.2 * C.2.2 * cpX a b c = lcmQ a b * c.u * (C.1.1 * C.2.2)
        have : lcmQ a b * c.u * (C.1.1 * C.2.2) = (lcmQ a b * c.u * C.1.1) * C.2.2 := by grind
        rw [this, q1]
        grind
      · show C.1.2 * C.2.2 * cpY a b c = lcmQ a b * c.u * (C.2.1 * C.1.2)
        have : lcmQ a b * c.u * (C.2.1 * C.1.2) = (lcmQ a b * c.u * C.2.1) * C.1.2 := by grind
        rw [this, q2]
        grind
  constructor
  · rw [at_in A (atL_e3 (Int.mul_pos g0 wu) H) (by rw [GM.scL_len]; exact h.hull.pos), ← GM.scL_scL, GM.inP_iff (GM.hull_sc g0 (GM.hull_sc wu h.hull)), GM.in_sc g0]
    rw [GM.scL_scL, Int.mul_comm c.u] at hin
    exact hin
  · obtain ⟨ea, eb⟩ := seg_ends (a := a) (b := b)
    have pa : 0 < a.1.2 * a.2.2 := Int.mul_pos ha.x0 ha.y0
    have pb : 0 < b.1.2 * b.2.2 := Int.mul_pos hb.x0 hb.y0
    have A1 := (ea.at ha.x0 ha.y0 hw).sc (Int.mul_pos (Int.mul_pos pb g0) u0)
    have B1 := (eb.at hb.x0 hb.y0 hw).sc (Int.mul_pos (Int.mul_pos pa g0) u0)
    have C1 := A.sc (Int.mul_pos pa pb)
    rw [GM.sc_sc] at A1 B1 C1
    generalize a.1.2 * a.2.2 = da at *
    generalize b.1.2 * b.2.2 = db at *
    generalize C.1.2 * C.2.2 = dc at *
    have l1 : db * dc * c.u * (da * lcmQ a b) = da * db * (dc * (lcmQ a b * c.u)) := by grind
    have l2 : da * dc * c.u * (db * lcmQ a b) = da * db * (dc * (lcmQ a b * c.u)) := by grind
    have k1 : db * dc * c.u * da = da * db * dc * c.u := by grind
    have k2 : da * dc * c.u * db = da * db * dc * c.u := by grind
    rw [l1, k1] at A1
    rw [l2, k2] at B1
    have k3 : da * db * dc = da * db * dc := rfl
    rw [← GM.sc_sc (da * db * dc) c.u] at A1 B1
    rw [at_on C1 A1 B1, GM.seg_sc (Int.mul_pos (Int.mul_pos pa pb) g0)]
    exact hseg
end

/-! the directions, the line between, the judge of lines -/
open GM (P2 nth nxt IsHull Seg Fn Cs sc scL In hi lo Sep dirQ lowP gcdZ subP)
section
variable {s : S}
theorem ne_vlsP {p q : P2} : neD (.tup [.int p.1, .int p.2]) (.tup [.int q.1, .int q.2]) s = .ok (.bl (!decide (p = q))) s := ne_pD
theorem clL_pDs (n : Nat) (l : List P2) : ClL n (l.map pD) = True := clL_pD l
theorem run_dirs {H : List P2} {a b : Pt} (h : PcOk H) (ha : SmP a) (hb : SmP b) : F_directions [s5 (segQ a b), .tup (H.map pD)] s = .ok (.vls ((dirQ H (eA a b) (eB a b)).map pD)) s := by
  have he := seg_bs ha hb
  have e2 := run_planesP (s := s) h
  have pl := planes_len H
  have hl := h.len
  have hc := compM_enc (s := s) (enc := t3) (out := fun f => pD (-f.1, -f.2.1)) (l := GM.planesP H) (ma := callM (lenM 1 F_planes_of) (consA (varM 1) nilA)) (g := gTupM 3 (gConsM (gNm 8) (gConsM (gNm 9) (gConsM (gNm 7) gNilM)))) (t := yesT) (e := E_directions_1) (vs := [8, 9, 7]) (env := [some (s5 (segQ a b)), some (.tup (H.map pD)), none, none, none, none, none, none, none, none]) (d0 := .vls ((GM.planesP H).map t3)) (by simp! only [e2]) (srcD_vls _) (by omega) (fun f _ => by
    unfold turnC
    simp! only [wipeE, E_directions_1]
    rfl)
  have ec : ((GM.planesP H).map fun f => pD (-f.1, -f.2.1)) = ((GM.planesP H).map fun f => ((-f.1, -f.2.1) : P2)).map pD := by rw [List.map_map]; rfl
  rw [ec] at hc
  have e : s5 (segQ a b) = .tup [.int (eA a b).1, .int (eA a b).2, .int (eB a b).1, .int (eB a b).2, .int (lcmQ a b)] := rfl
  rw [e] at hc ⊢
  unfold F_directions m_directions GM.dirQ
  generalize hD : ((GM.planesP H).map fun f => ((-f.1, -f.2.1) : P2)) = Ds at *
  have dl : (Ds.map pD).length ≤ 1004 := by rw [← hD, List.length_map, List.length_map]; omega
  by_cases k : eA a b = eB a b
  · have nq := ne_vlsP (s := s ++ [.lst (Ds.map pD)]) (p := eA a b) (q := eB a b)
    have k2 : (!decide (eA a b = eB a b)) = false := by simp [k]
    rw [k2] at nq
    rw [if_pos k, List.append_nil]
    simp! only [hc, gTup5, nq]
  · have nq := ne_vlsP (s := s ++ [.lst (Ds.map pD)]) (p := eA a b) (q := eB a b)
    have hne : (eA a b).2 - (eB a b).2 ≠ 0 ∨ (eB a b).1 - (eA a b).1 ≠ 0 := by
      by_cases z : (eA a b).1 = (eB a b).1
      · left
        intro z2
        exact k (Prod.ext z (by omega))
      · right
        omega
    have r1 := run_lowest (s := s ++ [.lst (Ds.map pD)]) hne (((show Bt 50 (eA a b).2 from he.b).sub (show Bt 50 (eB a b).2 from he.d)).mono (by decide)) (((show Bt 50 (eB a b).1 from he.c).sub (show Bt 50 (eA a b).1 from he.a)).mono (by decide))
    rw [show pD (lowP ((eA a b).2 - (eB a b).2) ((eB a b).1 - (eA a b).1)) = .tup [.int (lowP ((eA a b).2 - (eB a b).2) ((eB a b).1 - (eA a b).1)).1, .int (lowP ((eA a b).2 - (eB a b).2) ((eB a b).1 - (eA a b).1)).2] from rfl] at r1
    generalize lowP ((eA a b).2 - (eB a b).2) ((eB a b).1 - (eA a b).1) = L at *
    have k2 : (!decide (eA a b = eB a b)) = true := by simp [k]
    rw [k2] at nq
    have x2 : (Ds.map pD).length + [D.tup [.int L.1, .int L.2], .tup [.int (-L.1), .int (-L.2)]].length ≤ 100000 := by
      simp only [List.length_cons, List.length_nil]
      omega
    have xx := extK_le (s := s ++ [.lst (Ds.map pD)]) (k := s.length) (es := [D.tup [.int L.1, .int L.2], .tup [.int (-L.1), .int (-L.2)]]) x2
    have eq2 : Ds.map pD ++ [D.tup [.int L.1, .int L.2], .tup [.int (-L.1), .int (-L.2)]] = (Ds ++ [L, (-L.1, -L.2)]).map pD := by rw [List.map_append]; rfl
    rw [eq2] at xx
    rw [if_neg k]
    simp! only [hc, gTup5, nq, r1, methE_run, isL_run, isLk_l, extD_run, new_at, xx, set_new]
/-! ### the loop over the directions -/
def dtP (e p : P2) : Int := e.1 * p.1 + e.2 * p.2
def topQ (H : List P2) (e : P2) : Int := hi (H.map (dtP e))
def lowQ (a b e : P2) : Int := if dtP e b < dtP e a then dtP e b else dtP e a
def sepB (w : Int) (H : List P2) (a b e : P2) : Bool := decide (topQ H e * w < lowQ a b e)
def lineC (w : Int) (H : List P2) (a b e : P2) : Int × Int := rat (topQ H e * (rat (lowQ a b e) w).2 + (rat (lowQ a b e) w).1 * 1) (2 * 1 * (rat (lowQ a b e) w).2)
theorem top_ge {H : List P2} {e c : P2} (h0 : 0 < H.length) (hc : c ∈ H) : dtP e c ≤ topQ H e := (GM.hi_is (l := H.map (dtP e)) (by rw [List.length_map]; exact h0)).2 _ (List.mem_map.mpr ⟨c, hc, rfl⟩)
theorem top_mem {H : List P2} {e : P2} (h0 : 0 < H.length) : ∃ c ∈ H, topQ H e = dtP e c := by
  obtain ⟨c, hc, z⟩ := List.mem_map.mp (GM.hi_is (l := H.map (dtP e)) (by rw [List.length_map]; exact h0)).1
  exact ⟨c, hc, z.symm⟩
theorem sepB_iff {w : Int} {H : List P2} {a b e : P2} (hw : 0 < w) (h0 : 0 < H.length) : sepB w H a b e = true ↔ Sep w H a b e := by
  unfold sepB GM.Sep
  rw [decide_eq_true_eq]
  have lq : lowQ a b e ≤ dtP e a ∧ lowQ a b e ≤ dtP e b ∧ (lowQ a b e = dtP e a ∨ lowQ a b e = dtP e b) := by
    unfold lowQ
    split <;> omega
  constructor
  · intro h c hc
    have t := top_ge (e := e) h0 hc
    have t2 := Int.mul_le_mul_of_nonneg_left t (Int.le_of_lt hw)
    rw [Int.mul_comm w (topQ H e)] at t2
    have e1 : w * (e.1 * c.1 + e.2 * c.2) = w * dtP e c := rfl
    have e2 : e.1 * a.1 + e.2 * a.2 = dtP e a := rfl
    have e3' : e.1 * b.1 + e.2 * b.2 = dtP e b := rfl
    omega
  · intro h
    obtain ⟨c, hc, z⟩ := top_mem (e := e) h0
    obtain ⟨h1, h2⟩ := h c hc
    have e1 : w * (e.1 * c.1 + e.2 * c.2) = w * dtP e c := rfl
    have e2 : e.1 * a.1 + e.2 * a.2 = dtP e a := rfl
    have e3' : e.1 * b.1 + e.2 * b.2 = dtP e b := rfl
    rw [z, Int.mul_comm]
    omega
structure BDir (e : P2) : Prop where
  x : Bt 60 e.1
  y : Bt 60 e.2
theorem dt_bt {e p : P2} {n : Nat} (he : BDir e) (hx : Bt n p.1) (hy : Bt n p.2) : Bt (60 + n + 1) (dtP e p) := (he.x.mul hx).add (he.y.mul hy)
theorem top_bt {H : List P2} {e : P2} (h0 : 0 < H.length) (hb : ∀ q ∈ H, C30 q) (he : BDir e) : Bt 91 (topQ H e) := by
  obtain ⟨c, hc, z⟩ := top_mem (e := e) h0
  rw [z]
  exact dt_bt he (hb c hc).x (hb c hc).y
theorem low_btQ {a b e : P2} (he : BDir e) (a1 : Bt 50 a.1) (a2 : Bt 50 a.2) (b1 : Bt 50 b.1) (b2 : Bt 50 b.2) : Bt 111 (lowQ a b e) := by
  unfold lowQ
  split
  · exact dt_bt he b1 b2
  · exact dt_bt he a1 a2
theorem dir_bt {H : List P2} {a b : Pt} (h : PcOk H) (hb : ∀ q ∈ H, C30 q) (ha : SmP a) (hb' : SmP b) : ∀ e ∈ dirQ H (eA a b) (eB a b), BDir e := fun e he => by
  have hs := seg_bs ha hb'
  unfold GM.dirQ at he
  rcases List.mem_append.mp he with he | he
  · obtain ⟨f, hf, rfl⟩ := List.mem_map.mp he
    have := plane_fs h hb f hf
    exact ⟨this.u.neg.mono (by decide), this.v.neg.mono (by decide)⟩
  · split at he
    · cases he
    · rename_i k
      have hne : (eA a b).2 - (eB a b).2 ≠ 0 ∨ (eB a b).1 - (eA a b).1 ≠ 0 := by
        by_cases z : (eA a b).1 = (eB a b).1
        · left
          intro z2
          exact k (Prod.ext z (by omega))
        · right
          omega
      obtain ⟨g1, g2⟩ := GM.gcdZ_mul hne
      have g0 := GM.gcdZ_pos hne
      have b1 := low_bt g0 g1 ((show Bt 50 (eA a b).2 from hs.b).sub (show Bt 50 (eB a b).2 from hs.d))
      have b2 := low_bt g0 g2 ((show Bt 50 (eB a b).1 from hs.c).sub (show Bt 50 (eA a b).1 from hs.a))
      simp only [List.mem_cons, List.not_mem_nil, or_false] at he
      rcases he with rfl | rfl
      · exact ⟨b1.mono (by decide), b2.mono (by decide)⟩
      · exact ⟨b1.neg.mono (by decide), b2.neg.mono (by decide)⟩
theorem line_bt {w : Int} {H : List P2} {a b e : P2} (hw : 0 < w) (bw : Bt 50 w) (bt : Bt 91 (topQ H e)) (bl : Bt 111 (lowQ a b e)) : 0 < (rat (lowQ a b e) w).2 ∧ Bt 111 (rat (lowQ a b e) w).1 ∧ Bt 50 (rat (lowQ a b e) w).2 ∧ Bt 200 (topQ H e * (rat (lowQ a b e) w).2 + (rat (lowQ a b e) w).1 * 1) ∧ Bt 100 (2 * 1 * (rat (lowQ a b e) w).2) := by
  have ne : w ≠ 0 := by omega
  have r1 := rat_bt1 ne bl
  have r2 := rat_bt2 (n := lowQ a b e) ne bw
  refine ⟨rat_pos ne, r1, r2, ?_, ?_⟩
  · rw [Int.mul_one]
    exact (((bt.mul r2).mono (n := 150) (by decide)).add (r1.mono (by decide))).mono (by decide)
  · exact ((bt_small (n := 30) (i := 2 * 1) (by decide) (by decide) |>.mul r2).mono (by decide))
theorem foldE_find {α : Type} {f : α → Bool} {d : α → D} : ∀ l : List α, foldE (fun (_ : Unit) a => if f a = true then Except.error (d a) else .ok ()) () l = (match l.find? f with | some a => .error (d a) | none => .ok ())
  | [] => rfl
  | a :: l => by
    unfold foldE
    rw [List.find?_cons]
    cases e : f a with
    | true => simp
    | false =>
      simp only [Bool.false_eq_true, if_false]
      exact foldE_find l
end

/-! the line that is found; the judges -/
open GM (P2 nth nxt IsHull Seg Fn Cs sc scL In hi lo Sep dirQ lowP gcdZ subP)
section
variable {s : S}
def lineO (H : List P2) (a b : Pt) : Option P2 := (dirQ H (eA a b) (eB a b)).find? (sepB (lcmQ a b) H (eA a b) (eB a b))
def lineV (H : List P2) (a b : Pt) (e : P2) : D := .tup [pD e, pD (lineC (lcmQ a b) H (eA a b) (eB a b) e)]
def lineD (H : List P2) (a b : Pt) : D := match lineO H a b with
  | some e => lineV H a b e
  | none => .non
theorem min2_int (i j : Int) : min2D (.int i) (.int j) s = .ok (.int (if j < i then j else i)) s := rfl
theorem run_mid2 {g : Int} {R : Int × Int} (bg : Bt 91 g) (b1 : Bt 111 R.1) (b2 : Bt 50 R.2) (h : 0 < R.2) : F_middle [.tup [.int g, .int 1], pD R] s = .ok (pD (rat (g * R.2 + R.1 * 1) (2 * 1 * R.2))) s := by
  have m1 : MulOk g R.2 := mk2 bg b2 (by decide) (by decide)
  have m2 : MulOk R.1 1 := mk2 b1 (bt_one (n := 1) (by decide) (by decide)) (by decide) (by decide)
  have m3 : MulOk 2 1 := mulOk_l (by decide) (by decide)
  have m4 : PL.MulOk ((2 : Int) * 1) R.2 := mulOk_l (by decide) (by decide)
  have r := fun s => run_pratio (s := s) (n := g * R.2 + R.1 * 1) (d := 2 * 1 * R.2) (by omega) (((bt_small (n := 30) (i := 2 * 1) (by decide) (by decide)).mul b2).mono (by decide))
  unfold F_middle m_middle
  simp! only [ix_p0, ix_p1, mulD_int m1, mulD_int m2, mulD_int m3, mulD_int m4, r]
theorem run_lbody {H : List P2} {a b : Pt} {e : P2} {x0 x1 x3 x9 x10 x11 x12 x13 x14 : Option D} (h : PcOk H) (hb : ∀ q ∈ H, C30 q) (ha : SmP a) (hb' : SmP b) (be : BDir e) :
    ((gTupM 2 (gConsM (gNm 9) (gConsM (gNm 10) gNilM)) (pD e) [x0, x1, some (.tup (H.map pD)), x3, some (.int (eA a b).1), some (.int (eA a b).2), some (.int (eB a b).1), some (.int (eB a b).2), some (.int (lcmQ a b)), x9, x10, x11, x12, x13, x14] s).on fun en s2 => B_line_between_2 en s2) =
    (if sepB (lcmQ a b) H (eA a b) (eB a b) e = true then R.ok (Out.rt (lineV H a b e)) s else R.ok (Out.nx [x0, x1, some (.tup (H.map pD)), x3, some (.int (eA a b).1), some (.int (eA a b).2), some (.int (eB a b).1), some (.int (eB a b).2), some (.int (lcmQ a b)), some (.int e.1), some (.int e.2), some (.int (lowQ (eA a b) (eB a b) e)), some (.int (topQ H e)), x13, x14]) s) := by
  have hs := seg_bs ha hb'
  have hw := lcmQ_pos ha.bp hb'.bp
  have h0 := h.hull.pos
  have m1 : MulOk e.1 (eA a b).1 := mk2 be.x (show Bt 50 (eA a b).1 from hs.a) (by decide) (by decide)
  have m2 : MulOk e.2 (eA a b).2 := mk2 be.y (show Bt 50 (eA a b).2 from hs.b) (by decide) (by decide)
  have m3 : MulOk e.1 (eB a b).1 := mk2 be.x (show Bt 50 (eB a b).1 from hs.c) (by decide) (by decide)
  have m4 : MulOk e.2 (eB a b).2 := mk2 be.y (show Bt 50 (eB a b).2 from hs.d) (by decide) (by decide)
  have bt := top_bt (e := e) h0 hb be
  have bl := low_btQ (a := eA a b) (b := eB a b) be (show Bt 50 (eA a b).1 from hs.a) (show Bt 50 (eA a b).2 from hs.b) (show Bt 50 (eB a b).1 from hs.c) (show Bt 50 (eB a b).2 from hs.d)
  have m5 : MulOk (topQ H e) (lcmQ a b) := mk2 bt (show Bt 50 (lcmQ a b) from hs.w) (by decide) (by decide)
  obtain ⟨r0, r1, r2, _, _⟩ := line_bt (a := eA a b) (b := eB a b) hw (show Bt 50 (lcmQ a b) from hs.w) bt bl
  have rr := fun s => run_pratio (s := s) (n := lowQ (eA a b) (eB a b) e) (d := lcmQ a b) (by omega) ((show Bt 50 (lcmQ a b) from hs.w).mono (by decide))
  have rm := fun s => run_mid2 (s := s) bt r1 r2 r0
  have hc : ∀ x11 : Option D, compF (srcM (varM 2)) (gTupM 2 (gConsM (gNm 13) (gConsM (gNm 14) gNilM))) yesT E_line_between_1 [13, 14] [x0, x1, some (.tup (H.map pD)), x3, some (.int (eA a b).1), some (.int (eA a b).2), some (.int (eB a b).1), some (.int (eB a b).2), some (.int (lcmQ a b)), some (.int e.1), some (.int e.2), x11, x12, x13, x14] s = .ok (.vls ((H.map (dtP e)).map D.int)) s := fun x11 => by
    have hc := compF_enc (s := s) (enc := pD) (out := fun c => .int (dtP e c)) (l := H) (ma := varM 2) (g := gTupM 2 (gConsM (gNm 13) (gConsM (gNm 14) gNilM))) (t := yesT) (e := E_line_between_1) (vs := [13, 14]) (env := [x0, x1, some (.tup (H.map pD)), x3, some (.int (eA a b).1), some (.int (eA a b).2), some (.int (eB a b).1), some (.int (eB a b).2), some (.int (lcmQ a b)), some (.int e.1), some (.int e.2), x11, x12, x13, x14]) (d0 := .tup (H.map pD)) (by simp! only []) (srcD_tup _) (by have := h.len; omega) (fun c hc => by
      have bc := hb c hc
      have m1 : MulOk e.1 c.1 := mk2 be.x bc.x (by decide) (by decide)
      have m2 : MulOk e.2 c.2 := mk2 be.y bc.y (by decide) (by decide)
      have ec : pD c = .tup [.int c.1, .int c.2] := rfl
      rw [ec]
      unfold turnC dtP
      simp! only [wipeE, E_line_between_1, mulD_int m1, mulD_int m2])
    rw [List.map_map]
    exact hc
  have mx := fun s => max_vls (s := s) (l := H.map (dtP e)) (by rw [List.length_map]; exact h0)
  have el : (if dtP e (eB a b) < dtP e (eA a b) then dtP e (eB a b) else dtP e (eA a b)) = lowQ (eA a b) (eB a b) e := rfl
  have ea : e.1 * (eA a b).1 + e.2 * (eA a b).2 = dtP e (eA a b) := rfl
  have eb : e.1 * (eB a b).1 + e.2 * (eB a b).2 = dtP e (eB a b) := rfl
  have et : hi (H.map (dtP e)) = topQ H e := rfl
  have ee : pD e = .tup [.int e.1, .int e.2] := rfl
  unfold sepB lineV lineC
  rw [ee]
  simp! only [B_line_between_2, mulD_int m1, mulD_int m2, mulD_int m3, mulD_int m4, min2_int, ea, eb, el, hc, mx, et, mulD_int m5, rr, rm]
theorem run_line {H : List P2} {a b : Pt} (h : PcOk H) (hb : ∀ q ∈ H, C30 q) (ha : SmP a) (hb' : SmP b) : F_line_between [ptD a, ptD b, .tup (H.map pD)] s = .ok (lineD H a b) s := by
  have e1 := run_seg (s := s) ha.bp hb'.bp
  have e2 := run_dirs (s := s) h ha hb'
  obtain ⟨o, s', el, c⟩ := loop_ret (r := ⟨(dirQ H (eA a b) (eB a b)).map pD, none⟩) (g := gTupM 2 (gConsM (gNm 9) (gConsM (gNm 10) gNilM))) (b := B_line_between_2) (enc := pD) (step := fun (_ : Unit) e => if sepB (lcmQ a b) H (eA a b) (eB a b) e = true then Except.error (lineV H a b e) else .ok ())
      (fun _ env s' => ∃ x9 x10 x11 x12, env = [some (ptD a), some (ptD b), some (.tup (H.map pD)), some (s5 (segQ a b)), some (.int (eA a b).1), some (.int (eA a b).2), some (.int (eB a b).1), some (.int (eB a b).2), some (.int (lcmQ a b)), x9, x10, x11, x12, none, none] ∧ s' = s) (fun d s' => s' = s) (fun _ _ _ _ => trivial) (dirQ H (eA a b) (eB a b)) () [some (ptD a), some (ptD b), some (.tup (H.map pD)), some (s5 (segQ a b)), some (.int (eA a b).1), some (.int (eA a b).2), some (.int (eB a b).1), some (.int (eB a b).2), some (.int (lcmQ a b)), none, none, none, none, none, none] s ⟨none, none, none, none, rfl, rfl⟩ (by
        rintro e he _ env s' ⟨x9, x10, x11, x12, rfl, rfl⟩
        have body := run_lbody (s := s') (x0 := some (ptD a)) (x1 := some (ptD b)) (x3 := some (s5 (segQ a b))) (x9 := x9) (x10 := x10) (x11 := x11) (x12 := x12) (x13 := none) (x14 := none) h hb ha hb' (dir_bt h hb ha hb' e he)
        rw [body]
        by_cases ht : sepB (lcmQ a b) H (eA a b) (eB a b) e = true
        · rw [if_pos ht, if_pos ht]
          exact ⟨_, _, rfl, .inr ⟨_, rfl, rfl, rfl⟩⟩
        · rw [if_neg ht, if_neg ht]
          exact ⟨_, _, rfl, .inl ⟨(), _, rfl, rfl, _, _, _, _, rfl, rfl⟩⟩)
  rw [foldE_find] at c
  have e : s5 (segQ a b) = .tup [.int (eA a b).1, .int (eA a b).2, .int (eB a b).1, .int (eB a b).2, .int (lcmQ a b)] := rfl
  rw [e] at e1 e2 el
  have cl : Cl s.length (lineD H a b) := by
    unfold lineD lineV
    split
    · exact .tup (.cons (.tup (.cons (.int _) (.cons (.int _) .nil))) (.cons (.tup (.cons (.int _) (.cons (.int _) .nil))) .nil))
    · exact .non
  unfold F_line_between m_line_between
  unfold lineD lineO at cl ⊢
  cases ef : (dirQ H (eA a b) (eB a b)).find? (sepB (lcmQ a b) H (eA a b) (eB a b)) with
  | some e0 =>
    rw [ef] at c cl
    rcases c with ⟨st', env', h1, _⟩ | ⟨d, h1, rfl, rfl⟩
    · cases h1
    · cases h1
      simp! only [e1, e2, gTup5, srcD_vls, el]
      exact cut_eq cl
  | none =>
    rw [ef] at c
    rcases c with ⟨st', env', h1, rfl, x9, x10, x11, x12, rfl, rfl⟩ | ⟨d, h1, rfl, rfl⟩
    · simp! only [e1, e2, gTup5, srcD_vls, el]
    · cases h1
/-! ### the judges -/
def lessF (a b : Int × Int) : Bool := decide (a.1 * b.2 < b.1 * a.2)
def prodF (u : P2) (p : T3) : Int × Int := (u.1 * p.1 + u.2 * p.2.1, p.2.2)
def liesS (u : P2) (c : Int × Int) (p q : T3) (H : List P2) : Bool := if decide (u = (0, 0)) = true then false else if lessF c (prodF u p) = true then (if lessF c (prodF u q) = true then H.all fun k => lessF (prodF u (e3 k)) c else false) else false
structure B2k (c : Int × Int) : Prop where
  x : Bt 2000 c.1
  y : Bt 2000 c.2
theorem eq_00 {u : P2} : eqD (pD u) (.tup [.int 0, .int 0]) s = .ok (.bl (decide (u = (0, 0)))) s := eq_pD (q := (0, 0))
theorem run_lless {a b : Int × Int} (m1 : MulOk a.1 b.2) (m2 : MulOk b.1 a.2) : F__law_less [pD a, pD b] s = .ok (.bl (lessF a b)) s := by
  unfold F__law_less m__law_less lessF
  simp! only [ix_p0, ix_p1, mulD_int m1, mulD_int m2]
theorem run_pless {a b : Int × Int} (m1 : MulOk a.1 b.2) (m2 : MulOk b.1 a.2) : F_is_less [pD a, pD b] s = .ok (.bl (lessF a b)) s := by
  unfold F_is_less m_is_less lessF
  simp! only [ix_p0, ix_p1, mulD_int m1, mulD_int m2]
theorem run_lprod {u : P2} {p : T3} (hu : B2k u) (hp : B3 p) : F__law_product [pD u, t3 p] s = .ok (pD (prodF u p)) s := by
  have m1 : MulOk u.1 p.1 := mk2 hu.x hp.x (by decide) (by decide)
  have m2 : MulOk u.2 p.2.1 := mk2 hu.y hp.y (by decide) (by decide)
  unfold F__law_product m__law_product
  have e : pD (prodF u p) = .tup [.int (u.1 * p.1 + u.2 * p.2.1), .int p.2.2] := rfl
  rw [e]
  simp! only [ix_p0, ix_p1, mulD_int m1, mulD_int m2]
theorem prod_mul {u : P2} {p : T3} {c : Int × Int} (hu : B2k u) (hp : B3 p) (hc : B2k c) : MulOk c.1 (prodF u p).2 ∧ MulOk (prodF u p).1 c.2 ∧ MulOk (prodF u p).1 c.2 ∧ MulOk c.1 (prodF u p).2 := by
  have h1 : Bt 42001 (prodF u p).1 := (hu.x.mul hp.x).add (hu.y.mul hp.y)
  have h2 : Bt 40000 (prodF u p).2 := hp.z
  exact ⟨mk2 hc.x h2 (by decide) (by decide), mk2 h1 hc.y (by decide) (by decide), mk2 h1 hc.y (by decide) (by decide), mk2 hc.x h2 (by decide) (by decide)⟩
theorem e3_b {k : P2} (h : C30 k) : B3 (e3 k) := ⟨h.x.mono (by decide), h.y.mono (by decide), bt_one (by decide) (show (1 : Int).natAbs ≤ 1 by decide)⟩
theorem run_lies {u : P2} {c : Int × Int} {p q : T3} {H : List P2} (hz : H.length ≤ 1000) (hu : B2k u) (hc : B2k c) (hp : B3 p) (hq : B3 q) (hb : ∀ k ∈ H, C30 k) : F__law_lies_between [pD u, pD c, t3 p, t3 q, .tup (H.map pD)] s = .ok (.bl (liesS u c p q H)) s := by
  have p1 := fun s => run_lprod (s := s) hu hp
  have p2 := fun s => run_lprod (s := s) hu hq
  obtain ⟨a1, a2, _, _⟩ := prod_mul hu hp hc
  obtain ⟨b1, b2, _, _⟩ := prod_mul hu hq hc
  have l1 := fun s => run_lless (s := s) (a := c) (b := prodF u p) a1 a2
  have l2 := fun s => run_lless (s := s) (a := c) (b := prodF u q) b1 b2
  have cm := compF_enc (s := s) (enc := pD) (out := fun k => .bl (lessF (prodF u (e3 k)) c)) (l := H) (ma := varM 4) (g := gNm 5) (t := yesT) (e := E__law_lies_between_1) (vs := [5]) (env := [some (pD u), some (pD c), some (t3 p), some (t3 q), some (.tup (H.map pD)), none]) (d0 := .tup (H.map pD)) (by simp! only []) (srcD_tup _) (by omega) (fun k hk => by
    have p3 := fun s => run_lprod (s := s) hu (e3_b (hb k hk))
    obtain ⟨_, _, c1, c2⟩ := prod_mul hu (e3_b (hb k hk)) hc
    have l3 := fun s => run_lless (s := s) (a := prodF u (e3 k)) (b := c) c1 c2
    unfold turnC
    simp! only [E__law_lies_between_1, wipeE, ix_p0, ix_p1, p3, l3])
  unfold F__law_lies_between m__law_lies_between liesS
  cases e1 : decide (u = (0, 0)) with
  | true => simp! only [eq_00, e1]
  | false =>
    cases e2 : lessF c (prodF u p) with
    | false => simp! only [eq_00, e1, p1, l1, e2]
    | true =>
      cases e3' : lessF c (prodF u q) with
      | false => simp! only [eq_00, e1, p1, l1, e2, p2, l2, e3']
      | true => simp! only [eq_00, e1, p1, l1, e2, p2, l2, e3', cm, all_mapV]
theorem lb_turn {u : P2} {c : Int × Int} {p : Pt} {x0 x1 x2 x3 x7 x8 x9 x10 : Option D} (hu : B2k u) (hc : B2k c) (hp : BP p) :
    ((gTupM 2 (gConsM (gTupM 2 (gConsM (gNm 7) (gConsM (gNm 8) gNilM))) (gConsM (gTupM 2 (gConsM (gNm 9) (gConsM (gNm 10) gNilM))) gNilM)) (ptD p) [x0, x1, x2, x3, some (pD c), some (.int u.1), some (.int u.2), x7, x8, x9, x10, none, none] s).on fun e s2 => B_is_line_between_1 e s2) =
    (if lessF c (prodF u (scaleQ p)) = true then R.ok (Out.nx [x0, x1, x2, x3, some (pD c), some (.int u.1), some (.int u.2), some (.int p.1.1), some (.int p.1.2), some (.int p.2.1), some (.int p.2.2), none, none]) s else R.ok (Out.rt (.bl false)) s) := by
  have m1 : MulOk u.1 p.1.1 := mk2 hu.x hp.xn (by decide) (by decide)
  have m2 : MulOk (u.1 * p.1.1) p.2.2 := mk2 (hu.x.mul hp.xn) hp.yd (by decide) (by decide)
  have m3 : MulOk u.2 p.2.1 := mk2 hu.y hp.yn (by decide) (by decide)
  have m4 : MulOk (u.2 * p.2.1) p.1.2 := mk2 (hu.y.mul hp.yn) hp.xd (by decide) (by decide)
  have m5 : MulOk p.1.2 p.2.2 := mk2 hp.xd hp.yd (by decide) (by decide)
  have ep : ptD p = .tup [.tup [.int p.1.1, .int p.1.2], .tup [.int p.2.1, .int p.2.2]] := rfl
  have e1 : u.1 * p.1.1 * p.2.2 + u.2 * p.2.1 * p.1.2 = (prodF u (scaleQ p)).1 := by
    unfold prodF
    simp only []
    rw [Int.mul_assoc, Int.mul_assoc]
  have e2 : p.1.2 * p.2.2 = (prodF u (scaleQ p)).2 := rfl
  obtain ⟨a1, a2, _, _⟩ := prod_mul hu (b3_scale hp) hc
  have l := fun s => run_pless (s := s) (a := c) (b := prodF u (scaleQ p)) a1 a2
  have l' : ∀ s : S, F_is_less [pD c, .tup [.int (prodF u (scaleQ p)).1, .int (prodF u (scaleQ p)).2]] s = .ok (.bl (lessF c (prodF u (scaleQ p)))) s := l
  rw [ep]
  cases e3' : lessF c (prodF u (scaleQ p)) with
  | true => simp! only [B_is_line_between_1, mulD_int m1, mulD_int m2, mulD_int m3, mulD_int m4, mulD_int m5, e1, e2, l', e3']
  | false => simp! only [B_is_line_between_1, mulD_int m1, mulD_int m2, mulD_int m3, mulD_int m4, mulD_int m5, e1, e2, l', e3']
theorem loop_one {α : Type} {r : Src} {g : D → PL.Env → M PL.Env} {b : PL.Env → M Out} {d : D} {ds : List D} {env : PL.Env} {X : R Out} (hr : r.Ok s) (h : ((g d env s).on fun e s2 => b e s2) = X) : loopM r g b (d :: ds) env s = X.on (lpK r g b ds) := by
  rw [loop_cons, guard_pos hr, on_ok, ← h]
  cases g d env s <;> rfl
theorem run_judge {u : P2} {c : Int × Int} {a b : Pt} {H : List P2} (hz : H.length ≤ 1000) (hu : B2k u) (hc : B2k c) (ha : BP a) (hb' : BP b) (hb : ∀ k ∈ H, C30 k) : F_is_line_between [.tup [pD u, pD c], ptD a, ptD b, .tup (H.map pD)] s = .ok (.bl (liesS u c (scaleQ a) (scaleQ b) H)) s := by
  have t1 := fun s => lb_turn (s := s) (x0 := some (.tup [pD u, pD c])) (x1 := some (ptD a)) (x2 := some (ptD b)) (x3 := some (.tup (H.map pD))) (x7 := none) (x8 := none) (x9 := none) (x10 := none) hu hc ha
  have t2 := fun s => lb_turn (s := s) (x0 := some (.tup [pD u, pD c])) (x1 := some (ptD a)) (x2 := some (ptD b)) (x3 := some (.tup (H.map pD))) (x7 := some (.int a.1.1)) (x8 := some (.int a.1.2)) (x9 := some (.int a.2.1)) (x10 := some (.int a.2.2)) hu hc hb'
  have cm : ∀ x7 x8 x9 x10, compF (srcM (varM 3)) (gTupM 2 (gConsM (gNm 11) (gConsM (gNm 12) gNilM))) yesT E_is_line_between_2 [11, 12] [some (.tup [pD u, pD c]), some (ptD a), some (ptD b), some (.tup (H.map pD)), some (pD c), some (.int u.1), some (.int u.2), x7, x8, x9, x10, none, none] s = .ok (.vls (H.map fun k => .bl (lessF (prodF u (e3 k)) c))) s := fun x7 x8 x9 x10 => compF_enc (s := s) (enc := pD) (out := fun k => .bl (lessF (prodF u (e3 k)) c)) (l := H) (ma := varM 3) (g := gTupM 2 (gConsM (gNm 11) (gConsM (gNm 12) gNilM))) (t := yesT) (e := E_is_line_between_2) (vs := [11, 12]) (env := [some (.tup [pD u, pD c]), some (ptD a), some (ptD b), some (.tup (H.map pD)), some (pD c), some (.int u.1), some (.int u.2), x7, x8, x9, x10, none, none]) (d0 := .tup (H.map pD)) (by simp! only []) (srcD_tup _) (by omega) (fun k hk => by
    have m1 : MulOk u.1 k.1 := mk2 hu.x (hb k hk).x (by decide) (by decide)
    have m2 : MulOk u.2 k.2 := mk2 hu.y (hb k hk).y (by decide) (by decide)
    obtain ⟨_, _, c1, c2⟩ := prod_mul hu (e3_b (hb k hk)) hc
    have l3 : ∀ s : S, F_is_less [.tup [.int (u.1 * k.1 + u.2 * k.2), .int 1], pD c] s = .ok (.bl (lessF (prodF u (e3 k)) c)) s := fun s => run_pless (s := s) (a := prodF u (e3 k)) (b := c) c1 c2
    have ek : pD k = .tup [.int k.1, .int k.2] := rfl
    rw [ek]
    unfold turnC
    simp! only [E_is_line_between_2, wipeE, mulD_int m1, mulD_int m2, l3])
  have eu : pD u = .tup [.int u.1, .int u.2] := rfl
  have z0 : eqD (.tup [.int u.1, .int u.2]) (.tup [.int 0, .int 0]) s = .ok (.bl (decide (u = (0, 0)))) s := eq_00
  have hg : ∀ {is : List D} {s : S}, guardM ⟨is, none⟩ s = .ok () s := fun {is s} => guard_pos trivial
  have G1 := loop_one (α := Unit) (r := ⟨[ptD a, ptD b], none⟩) (ds := [ptD b]) trivial (t1 s)
  have G2 := loop_one (α := Unit) (r := ⟨[ptD a, ptD b], none⟩) (ds := []) trivial (t2 s)
  have nx : ∀ (r : Src) (gg : D → PL.Env → M PL.Env) (b : PL.Env → M Out) (ds : List D) (e : PL.Env) (s : S), lpK r gg b ds (.nx e) s = loopM r gg b ds e s := fun _ _ _ _ _ _ => rfl
  have rt : ∀ (r : Src) (gg : D → PL.Env → M PL.Env) (b : PL.Env → M Out) (ds : List D) (e : D) (s : S), lpK r gg b ds (.rt e) s = .ok (.rt e) s := fun _ _ _ _ _ _ => rfl
  rw [eu] at G1 G2 cm ⊢
  unfold F_is_line_between m_is_line_between liesS
  cases e1 : decide (u = (0, 0)) with
  | true => simp! only [z0, e1]
  | false =>
    cases e2 : lessF c (prodF u (scaleQ a)) with
    | false =>
      rw [e2, if_neg (by decide), on_ok, rt] at G1
      simp! only [z0, e1, G1]
    | true =>
      rw [e2, if_pos rfl, on_ok, nx] at G1
      cases e3' : lessF c (prodF u (scaleQ b)) with
      | false =>
        rw [e3', if_neg (by decide), on_ok, rt] at G2
        rw [G2] at G1
        simp! only [z0, e1, G1]
      | true =>
        rw [e3', if_pos rfl, on_ok, nx, loop_nil, guard_none, on_ok] at G2
        rw [G2] at G1
        simp! only [z0, e1, G1, cm, all_mapV]
end

/-! what is found is right -/
open GM (P2 nth nxt IsHull Seg Fn Cs sc scL In hi lo Sep dirQ lowP gcdZ subP)
theorem low_le (a b e : P2) : lowQ a b e ≤ dtP e a ∧ lowQ a b e ≤ dtP e b := by
  unfold lowQ
  split <;> omega
theorem end_dt {p : Pt} {x y w : Int} (h : EndOk p x y w) (e : P2) : w * (prodF e (scaleQ p)).1 = (scaleQ p).2.2 * dtP e (x, y) := by
  obtain ⟨h1, h2⟩ := h.eq
  unfold prodF dtP
  simp only []
  rw [Int.mul_add, Int.mul_add]
  have a1 : w * (e.1 * (scaleQ p).1) = e.1 * (w * (scaleQ p).1) := by grind
  have a2 : w * (e.2 * (scaleQ p).2.1) = e.2 * (w * (scaleQ p).2.1) := by grind
  rw [a1, a2, h1, h2]
  grind
theorem less_of {mn md R2 R1 g l w pw ep ea : Int} (E1 : mn * (2 * 1 * R2) = (g * R2 + R1 * 1) * md) (E2 : R1 * w = l * R2) (E3 : w * ep = pw * ea) (hmd : 0 < md) (hR : 0 < R2) (hw : 0 < w) (hp : 0 < pw) (hg : g * w < l) (hl : l ≤ ea) : mn * pw < ep * md := by
  have f := Int.mul_pos (Int.mul_pos (Int.mul_pos hp hmd) hR) (show 0 < 2 * ea - g * w - l by omega)
  have e : 2 * R2 * w * (ep * md - mn * pw) = pw * md * R2 * (2 * ea - g * w - l) := by
    have a1 : 2 * R2 * w * (ep * md - mn * pw) = 2 * R2 * md * (w * ep) - w * pw * (mn * (2 * 1 * R2)) := by grind
    have a2 : w * pw * ((g * R2 + R1 * 1) * md) = pw * md * (g * w * R2 + R1 * w) := by grind
    rw [a1, E1, E3, a2, E2]
    grind
  have := GM.pos_of_mul (f := 2 * R2 * w) (Int.mul_pos (Int.mul_pos (by decide) hR) hw) (by rw [e]; exact f)
  omega
theorem less_of2 {mn md R2 R1 g l w ek : Int} (E1 : mn * (2 * 1 * R2) = (g * R2 + R1 * 1) * md) (E2 : R1 * w = l * R2) (hmd : 0 < md) (hR : 0 < R2) (hw : 0 < w) (hg : g * w < l) (hk : ek ≤ g) : ek * md < mn * 1 := by
  have t := Int.mul_le_mul_of_nonneg_right hk (Int.le_of_lt hw)
  have f := Int.mul_pos (Int.mul_pos hmd hR) (show 0 < g * w + l - 2 * (ek * w) by omega)
  have e : 2 * R2 * w * (mn * 1 - ek * md) = md * R2 * (g * w + l - 2 * (ek * w)) := by
    have a1 : 2 * R2 * w * (mn * 1 - ek * md) = w * (mn * (2 * 1 * R2)) - 2 * R2 * w * ek * md := by grind
    have a2 : w * ((g * R2 + R1 * 1) * md) = md * (g * w * R2 + R1 * w) := by grind
    rw [a1, E1, a2, E2]
    grind
  have := GM.pos_of_mul (f := 2 * R2 * w) (Int.mul_pos (Int.mul_pos (by decide) hR) hw) (by rw [e]; exact f)
  omega
theorem line_ok {H : List P2} {a b : Pt} {e : P2} (h : PcOk H) (ha : BP a) (hb : BP b) (he : sepB (lcmQ a b) H (eA a b) (eB a b) e = true) : liesS e (lineC (lcmQ a b) H (eA a b) (eB a b) e) (scaleQ a) (scaleQ b) H = true := by
  have hw := lcmQ_pos ha hb
  have h0 := h.hull.pos
  have sep := (sepB_iff hw h0).mp he
  have hg : topQ H e * lcmQ a b < lowQ (eA a b) (eB a b) e := by
    unfold sepB at he
    exact of_decide_eq_true he
  have ne : lcmQ a b ≠ 0 := by omega
  have R := rat_is (n := lowQ (eA a b) (eB a b) e) ne
  have M := rat_is (n := topQ H e * (rat (lowQ (eA a b) (eB a b) e) (lcmQ a b)).2 + (rat (lowQ (eA a b) (eB a b) e) (lcmQ a b)).1 * 1) (d := 2 * 1 * (rat (lowQ (eA a b) (eB a b) e) (lcmQ a b)).2) (by have := R.pos; omega)
  have M1 := M.pos
  have M2 := M.eq
  have eL : lineC (lcmQ a b) H (eA a b) (eB a b) e = rat (topQ H e * (rat (lowQ (eA a b) (eB a b) e) (lcmQ a b)).2 + (rat (lowQ (eA a b) (eB a b) e) (lcmQ a b)).1 * 1) (2 * 1 * (rat (lowQ (eA a b) (eB a b) e) (lcmQ a b)).2) := rfl
  rw [← eL] at M1 M2
  obtain ⟨ea, eb⟩ := seg_ends (a := a) (b := b)
  have pa : 0 < (scaleQ a).2.2 := Int.mul_pos ha.x0 ha.y0
  have pb : 0 < (scaleQ b).2.2 := Int.mul_pos hb.x0 hb.y0
  obtain ⟨l1, l2⟩ := low_le (eA a b) (eB a b) e
  have n0 : decide (e = (0, 0)) = false := by
    refine decide_eq_false fun z => ?_
    subst z
    obtain ⟨c, hc, _⟩ := top_mem (e := (0, 0)) h0
    have := (sep c hc).1
    simp only [Int.zero_mul, Int.mul_zero, Int.add_zero] at this
    omega
  unfold liesS
  rw [n0, if_neg (by decide)]
  have c1 : lessF (lineC (lcmQ a b) H (eA a b) (eB a b) e) (prodF e (scaleQ a)) = true := decide_eq_true (less_of M2 R.eq (end_dt ea e) M1 R.pos hw pa hg l1)
  have c2 : lessF (lineC (lcmQ a b) H (eA a b) (eB a b) e) (prodF e (scaleQ b)) = true := decide_eq_true (less_of M2 R.eq (end_dt eb e) M1 R.pos hw pb hg l2)
  rw [c1, if_pos rfl, c2, if_pos rfl, List.all_eq_true]
  intro k hk
  exact decide_eq_true (less_of2 (ek := (prodF e (e3 k)).1) M2 R.eq M1 R.pos hw hg (top_ge h0 hk))
/-- a line is found exactly if they are apart -/
theorem line_apart {H : List P2} {a b : Pt} (h : PcOk H) (hz : H.length ≤ 1000) (ha : BP a) (hb : BP b) : (lineO H a b).isSome = (clipQ H a b).isNone := by
  have hw := lcmQ_pos ha hb
  have h0 := h.hull.pos
  have cc := clip_common (a := a) (b := b) h hw
  unfold lineO
  cases e : clipQ H a b with
  | some c =>
    rw [e] at cc
    have ex := cc.mp rfl
    have : (dirQ H (eA a b) (eB a b)).find? (sepB (lcmQ a b) H (eA a b) (eB a b)) = none := List.find?_eq_none.mpr fun d _ hs => GM.sep_none hw h0 ((sepB_iff hw h0).mp hs) ex
    rw [this]
    rfl
  | none =>
    rw [e] at cc
    have hno : ¬ ∃ k x, 0 < k ∧ Seg x (sc k (eA a b)) (sc k (eB a b)) ∧ In (scL k (scL (lcmQ a b) H)) x := fun z => by
      have := cc.mpr z
      cases this
    -- the hull of the differences
    obtain ⟨Ds, eD⟩ : ∃ Ds : List P2, Ds = (H.map fun c => subP (eA a b) (sc (lcmQ a b) c)) ++ H.map fun c => subP (eB a b) (sc (lcmQ a b) c) := ⟨_, rfl⟩
    have dp : 0 < Ds.length := by
      rw [eD, List.length_append, List.length_map]
      omega
    have iD := hullP_is dp
    have hD : IsHull (hullP Ds) (hullP Ds) := iD.sub_pts iD.sub fun _ h => h
    have memD : ∀ p, p ∈ Ds ↔ ∃ c ∈ H, p = subP (eA a b) (sc (lcmQ a b) c) ∨ p = subP (eB a b) (sc (lcmQ a b) c) := fun p => by
      rw [eD, List.mem_append, List.mem_map, List.mem_map]
      constructor
      · rintro (⟨c, hc, rfl⟩ | ⟨c, hc, rfl⟩)
        · exact ⟨c, hc, .inl rfl⟩
        · exact ⟨c, hc, .inr rfl⟩
      · rintro ⟨c, hc, rfl | rfl⟩
        · exact .inl ⟨c, hc, rfl⟩
        · exact .inr ⟨c, hc, rfl⟩
    obtain ⟨d, hd, hs⟩ := GM.sep_dir hw h.hull hD (fun k hk => (memD k).mp ((sortU_mem k Ds).mp (iD.sub k hk))) (fun c hc => ⟨GM.in_of_hull iD ((sortU_mem _ Ds).mpr ((memD _).mpr ⟨c, hc, .inl rfl⟩)), GM.in_of_hull iD ((sortU_mem _ Ds).mpr ((memD _).mpr ⟨c, hc, .inr rfl⟩))⟩) hno
    cases ef : (dirQ H (eA a b) (eB a b)).find? (sepB (lcmQ a b) H (eA a b) (eB a b)) with
    | some e0 => rfl
    | none => exact absurd ((sepB_iff hw h0).mpr hs) (by have := List.find?_eq_none.mp ef d hd; exact this)

/-! k05: the law -/
open GM (P2 nth nxt IsHull Cs dirQ)
section
variable {s : S}
theorem line_b2 {H : List P2} {a b : Pt} {e : P2} (h : PcOk H) (hb : ∀ q ∈ H, C30 q) (ha : SmP a) (hb' : SmP b) (he : e ∈ dirQ H (eA a b) (eB a b)) : B2k e ∧ B2k (lineC (lcmQ a b) H (eA a b) (eB a b) e) := by
  have hs := seg_bs ha hb'
  have hw := lcmQ_pos ha.bp hb'.bp
  have be := dir_bt h hb ha hb' e he
  have bt := top_bt (e := e) h.hull.pos hb be
  have bl := low_btQ (a := eA a b) (b := eB a b) be (show Bt 50 (eA a b).1 from hs.a) (show Bt 50 (eA a b).2 from hs.b) (show Bt 50 (eB a b).1 from hs.c) (show Bt 50 (eB a b).2 from hs.d)
  obtain ⟨r0, r1, r2, r3, r4⟩ := line_bt (a := eA a b) (b := eB a b) hw (show Bt 50 (lcmQ a b) from hs.w) bt bl
  exact ⟨⟨be.x.mono (by decide), be.y.mono (by decide)⟩, ⟨(rat_bt1 (by omega) r3).mono (by decide), (rat_bt2 (by omega) r4).mono (by decide)⟩⟩
theorem isn_opt (o : Option Cs) (p : Pt) (f : Cs → Pt) : isnD (match o with | none => .non | some c => ptD (f c)) s = .ok (.bl o.isNone) s := by
  cases o <;> rfl
theorem isn_line (H : List P2) (a b : Pt) : isnD (lineD H a b) s = .ok (.bl (lineO H a b).isNone) s := by
  unfold lineD
  cases lineO H a b <;> rfl
/-- the middle of a turn -/
noncomputable def MID : PL.Env → M Out :=
    (seqS (setS 6 (callM (lenM 1 F__law_scale) (consA (varM 4) nilA)))
    (seqS (setS 7 (callM (lenM 1 F__law_scale) (consA (varM 5) nilA)))
    (seqS (setS 8 (callM (lenM 3 F__law_apart) (consA (varM 6) (consA (varM 7) (consA (callM (lenM 1 F__law_corners) (consA (varM 3) nilA)) nilA)))))
    (seqS (setS 9 (callM (lenM 3 F_line_between) (consA (varM 4) (consA (varM 5) (consA (varM 3) nilA)))))
    (seqS (setS 10 (callM (lenM 3 F_common_point) (consA (varM 4) (consA (varM 5) (consA (varM 3) nilA)))))
    (seqS (ifS (orT (truM (callM (lenM 2 F__law_other) (consA (callM (lenM 3 F_are_apart) (consA (varM 4) (consA (varM 5) (consA (varM 3) nilA)))) (consA (varM 8) nilA)))) (orT (tB (binM eqD (unM isnD (varM 9)) (varM 8))) (tB (binM neD (unM isnD (varM 10)) (varM 8))))) (retS (cM (.bl false))) nxS)
    (ifS (truM (varM 8)) (ifS (orT (notT (truM (callM (lenM 5 F__law_lies_between) (consA (binM ixD (varM 9) (cM (.int 0))) (consA (binM ixD (varM 9) (cM (.int 1))) (consA (varM 6) (consA (varM 7) (consA (varM 3) nilA)))))))) (tB (binM notbD (callM (lenM 4 F_is_line_between) (consA (varM 9) (consA (varM 4) (consA (varM 5) (consA (varM 3) nilA))))) (cM (.bl true))))) (retS (cM (.bl false))) nxS) (ifS (orT (notT (truM (callM (lenM 2 F__law_in) (consA (callM (lenM 1 F__law_scale) (consA (varM 10) nilA)) (consA (callM (lenM 1 F__law_corners) (consA (varM 3) nilA)) nilA))))) (notT (truM (callM (lenM 3 F__law_on) (consA (callM (lenM 1 F__law_scale) (consA (varM 10) nilA)) (consA (varM 6) (consA (varM 7) nilA))))))) (retS (cM (.bl false))) nxS))))))))
/-- .. its end -/
noncomputable def FIN : PL.Env → M Out :=
    (ifS (truM (callM (lenM 2 F__law_other) (consA (callM (lenM 4 F_is_line_between) (consA (tupM (consA (varM 11) (consA (varM 12) nilA))) (consA (varM 4) (consA (varM 5) (consA (varM 3) nilA))))) (consA (callM (lenM 5 F__law_lies_between) (consA (varM 11) (consA (varM 12) (consA (varM 6) (consA (varM 7) (consA (varM 3) nilA)))))) nilA)))) (retS (cM (.bl false))) nxS)
/-- .. what is drawn in between -/
noncomputable def DRW : PL.Env → M Out :=
    (seqS (setS 11 (tupM (consA (binM subD (callM (lenM 2 F__law_next) (consA (varM 1) (consA (cM (.int 5)) nilA))) (cM (.int 2))) (consA (binM subD (callM (lenM 2 F__law_next) (consA (varM 1) (consA (cM (.int 5)) nilA))) (cM (.int 2))) nilA))))
    (seqS (setS 12 (callM (lenM 2 F__law_ratio) (consA (binM subD (callM (lenM 2 F__law_next) (consA (varM 1) (consA (cM (.int 41)) nilA))) (cM (.int 20))) (consA (binM addD (cM (.int 1)) (callM (lenM 2 F__law_next) (consA (varM 1) (consA (cM (.int 3)) nilA)))) nilA))))
    (seqS (ifS (andT (truM (varM 8)) (tB (binM eqD (callM (lenM 2 F__law_next) (consA (varM 1) (consA (cM (.int 2)) nilA))) (cM (.int 1))))) (seqS (setS 11 (binM ixD (lstF (consA (binM ixD (varM 9) (cM (.int 0))) (consA (varM 11) nilA))) (callM (lenM 2 F__law_next) (consA (varM 1) (consA (cM (.int 2)) nilA)))))
    (setS 12 (binM ixD (lstF (consA (binM ixD (varM 9) (cM (.int 1))) (consA (varM 12) nilA))) (callM (lenM 2 F__law_next) (consA (varM 1) (consA (cM (.int 2)) nilA)))))) nxS)
    FIN)))
theorem seqS_assoc (a b c : PL.Env → M Out) : seqS (seqS a b) c = seqS a (seqS b c) := by
  funext env s
  rw [seqS_run, seqS_run, seqS_run]
  cases a env s with
  | stuck => rfl
  | exc c s => rfl
  | ok o s1 =>
    rw [on_ok, on_ok]
    cases o with
    | nx e => rw [seqK_nx, seqK_nx, seqS_run]
    | rt d => rfl
    | bk e => rfl
    | ct e => rfl
theorem body_eq : B_law_1 = (seqS (setS 3 (callM (lenM 3 F__law_piece) (consA (varM 1) (consA (tupM (consA (callM (lenM 2 F__law_next) (consA (varM 1) (consA (cM (.int 3)) nilA))) (consA (cM (.int 2)) nilA))) (consA (binM ixD (lstF (consA (cM (.int 2)) (consA (cM (.int 5)) nilA))) (callM (lenM 2 F__law_next) (consA (varM 1) (consA (cM (.int 2)) nilA)))) nilA)))))
    (seqS (setS 4 (callM (lenM 3 F__law_place) (consA (varM 1) (consA (cM (.int 8)) (consA (cM (.int 8)) nilA)))))
    (seqS (setS 5 (binM ixD (lstF (consA (varM 4) (consA (callM (lenM 3 F__law_place) (consA (varM 1) (consA (cM (.int 8)) (consA (cM (.int 8)) nilA)))) nilA))) (callM (fun1 intD) (consA (binM gtD (callM (lenM 2 F__law_next) (consA (varM 1) (consA (cM (.int 4)) nilA))) (cM (.int 0))) nilA))))
    (seqS MID DRW)))) := by
  unfold MID DRW FIN
  simp only [seqS_assoc]
theorem run_midl {H : List P2} {a b : Pt} {x0 x1 x2 x6 x7 x8 x9 x10 x11 x12 : Option D} (h : PcOk H) (hb : ∀ q ∈ H, C30 q) (ha : SmP a) (hb' : SmP b) :
    ∃ y10, MID [x0, x1, x2, some (.tup (H.map pD)), some (ptD a), some (ptD b), x6, x7, x8, x9, x10, x11, x12] s = .ok (.nx [x0, x1, x2, some (.tup (H.map pD)), some (ptD a), some (ptD b), some (t3 (scaleQ a)), some (t3 (scaleQ b)), some (.bl (clipQ H a b).isNone), some (lineD H a b), y10, x11, x12]) s := by
  have r1 := fun s => run_scale (s := s) ha.bp
  have r2 := fun s => run_scale (s := s) hb'.bp
  have l1 : (H.map e3).length = H.length := List.length_map ..
  have bc : ∀ c ∈ H.map e3, B3 c := fun c hc => by
    obtain ⟨z, hz, rfl⟩ := List.mem_map.mp hc
    exact e3_b (hb z hz)
  have rc := fun s => run_corners (s := s) (ps := H) (by have := h.len; omega)
  have ra := fun s => run_lapart (s := s) (cs := H.map e3) (by rw [l1]; exact h.hull.pos) (by rw [l1]; have := h.len; omega) (b3_scale ha.bp) (b3_scale hb'.bp) bc
  rw [← apart_is h ha.bp hb'.bp] at ra
  have rl := fun s => run_line (s := s) h hb ha hb'
  have rp := fun s => run_common_point (s := s) h hb ha hb'
  have rq := fun s => run_apart (s := s) h ha.bp hb'.bp
  have ro := fun s => run_other (s := s) (a := (clipQ H a b).isNone) (b := (clipQ H a b).isNone)
  rw [decide_eq_true rfl] at ro
  have la := line_apart (a := a) (b := b) h h.len ha.bp hb'.bp
  have il := fun s => isn_line (s := s) H a b
  unfold MID
  cases e : clipQ H a b with
  | some c =>
    rw [e] at la ra rp rq ro
    have en : (lineO H a b).isNone = true := by
      cases ef : lineO H a b with
      | none => rfl
      | some _ => rw [ef] at la; cases la
    rw [en] at il
    rw [Option.isNone_some] at ra rq ro
    simp only [] at rp
    obtain ⟨k1, k2⟩ := cp_is h ha.bp hb'.bp e
    have z := GM.clip0 (show GM.clipC 0 GM.start _ = some c from e)
    obtain ⟨bc2, _, _, _⟩ := cp_b ha hb' (lcmQ_pos ha.bp hb'.bp) (clipQ_b h hb ha hb' e) z.1.1
    have rs := fun s => run_scale (s := s) bc2
    have ri := fun s => run_in (s := s) (p := scaleQ (cpQ a b c)) (cs := H.map e3) (by rw [l1]; exact h.hull.pos) (by rw [l1]; have := h.len; omega) (b3_scale bc2) bc
    have rn := fun s => run_on_ (s := s) (b3_scale bc2) (b3_scale ha.bp) (b3_scale hb'.bp)
    rw [k1] at ri
    rw [k2] at rn
    refine ⟨some (ptD (cpQ a b c)), ?_⟩
    simp! only [r1, r2, rc, ra, rl, rp, rq, ro, il, rs, ri, rn, Option.isNone_some, Bool.true_eq_false]
  | none =>
    rw [e] at la ra rp rq ro
    rw [Option.isNone_none] at la ra rq ro
    simp only [] at rp
    obtain ⟨e0, ef⟩ : ∃ e0, lineO H a b = some e0 := by
      cases ef : lineO H a b with
      | none => rw [ef] at la; cases la
      | some e0 => exact ⟨e0, rfl⟩
    have hm := List.mem_of_find?_eq_some ef
    have hs := List.find?_some ef
    obtain ⟨b1, b2⟩ := line_b2 h hb ha hb' hm
    have ok := line_ok h ha.bp hb'.bp hs
    have ld : lineD H a b = .tup [pD e0, pD (lineC (lcmQ a b) H (eA a b) (eB a b) e0)] := by unfold lineD; rw [ef]; rfl
    rw [ef, Option.isNone_some] at il
    have rlb := fun s => run_lies (s := s) h.len b1 b2 (b3_scale ha.bp) (b3_scale hb'.bp) hb
    have rj := fun s => run_judge (s := s) h.len b1 b2 ha.bp hb'.bp hb
    rw [ok] at rlb rj
    rw [ld] at rl il ⊢
    refine ⟨some .non, ?_⟩
    simp! only [r1, r2, rc, ra, rl, rp, rq, ro, il, isnD_non, rlb, rj, Option.isNone_none, Bool.true_eq_false]
theorem run_fin {H : List P2} {a b : Pt} {u : P2} {c : Int × Int} {x0 x1 x2 x8 x9 x10 : Option D} (h : PcOk H) (hb : ∀ q ∈ H, C30 q) (ha : SmP a) (hb' : SmP b) (hu : B2k u) (hc : B2k c) :
    FIN [x0, x1, x2, some (.tup (H.map pD)), some (ptD a), some (ptD b), some (t3 (scaleQ a)), some (t3 (scaleQ b)), x8, x9, x10, some (pD u), some (pD c)] s = .ok (.nx [x0, x1, x2, some (.tup (H.map pD)), some (ptD a), some (ptD b), some (t3 (scaleQ a)), some (t3 (scaleQ b)), x8, x9, x10, some (pD u), some (pD c)]) s := by
  have rl := fun s => run_lies (s := s) h.len hu hc (b3_scale ha.bp) (b3_scale hb'.bp) hb
  have rj := fun s => run_judge (s := s) h.len hu hc ha.bp hb'.bp hb
  have ro := fun s => run_other (s := s) (a := liesS u c (scaleQ a) (scaleQ b) H) (b := liesS u c (scaleQ a) (scaleQ b) H)
  rw [decide_eq_true rfl] at ro
  unfold FIN
  simp! only [rl, rj, ro]
theorem pickP {u v : P2} {x : Int} (hu : B2k u) (hv : B2k v) (h0 : 0 ≤ x) (h1 : x < 2) : ∃ z, atI ([pD u, pD v] : List D) x = some (pD z) ∧ B2k z := by
  rcases pick2D (a := pD u) (b := pD v) h0 h1 with h | h
  · exact ⟨u, h, hu⟩
  · exact ⟨v, h, hv⟩
theorem run_drw {c : Cell} {r : S} {H : List P2} {a b : Pt} {x0 x2 x10 x11 x12 : Option D} (P : Pot c) (h : PcOk H) (hb : ∀ q ∈ H, C30 q) (ha : SmP a) (hb' : SmP b) :
    ∃ (c' : Cell) (y11 y12 : Option D), DRW [x0, some (.ptr 0), x2, some (.tup (H.map pD)), some (ptD a), some (ptD b), some (t3 (scaleQ a)), some (t3 (scaleQ b)), some (.bl (clipQ H a b).isNone), some (lineD H a b), x10, x11, x12] (c :: r) = .ok (.nx [x0, some (.ptr 0), x2, some (.tup (H.map pD)), some (ptD a), some (ptD b), some (t3 (scaleQ a)), some (t3 (scaleQ b)), some (.bl (clipQ H a b).isNone), some (lineD H a b), x10, y11, y12]) (c' :: r) ∧ Pot c' := by
  have r1 := run_next (r := r) P (l := 5) (by decide) (by decide)
  obtain ⟨v1, P1⟩ := next_ok P (l := 5) (by decide)
  have r2 := run_next (r := r) P1 (l := 5) (by decide) (by decide)
  obtain ⟨v2, P2'⟩ := next_ok P1 (l := 5) (by decide)
  have r3 := run_next (r := r) P2' (l := 41) (by decide) (by decide)
  obtain ⟨v3, P3⟩ := next_ok P2' (l := 41) (by decide)
  have r4 := run_next (r := r) P3 (l := 3) (by decide) (by decide)
  obtain ⟨v4, P4⟩ := next_ok P3 (l := 3) (by decide)
  obtain ⟨n1, e1⟩ : ∃ n, n = nextV c 5 := ⟨_, rfl⟩
  obtain ⟨n2, e2⟩ : ∃ n, n = nextV (nextC c 5) 5 := ⟨_, rfl⟩
  obtain ⟨n3, e3'⟩ : ∃ n, n = nextV (nextC (nextC c 5) 5) 41 := ⟨_, rfl⟩
  obtain ⟨n4, e4⟩ : ∃ n, n = nextV (nextC (nextC (nextC c 5) 5) 41) 3 := ⟨_, rfl⟩
  obtain ⟨c4, ec4⟩ : ∃ c4, c4 = nextC (nextC (nextC (nextC c 5) 5) 41) 3 := ⟨_, rfl⟩
  rw [← e1] at r1 v1
  rw [← e2] at r2 v2
  rw [← e3'] at r3 v3
  rw [← e4] at r4 v4
  rw [← ec4] at r4 P4
  have rt := fun s => run_ratio (s := s) (n := n3 - 20) (d := 1 + n4)
  have lr := lrat_ok (n := n3 - 20) (d := 1 + n4) (by omega)
  obtain ⟨C, eC⟩ : ∃ C, C = lrat (n3 - 20) (1 + n4) := ⟨_, rfl⟩
  rw [← eC] at rt lr
  have bC : B2k C := ⟨bt_small (by decide) (by omega), bt_small (by decide) (by omega)⟩
  have bU : B2k (n1 - 2, n2 - 2) := ⟨bt_small (by decide) (by simp only []; omega), bt_small (by decide) (by simp only []; omega)⟩
  have f1 := run_fin (s := c4 :: r) (x0 := x0) (x1 := some (.ptr 0)) (x2 := x2) (x8 := some (.bl (clipQ H a b).isNone)) (x9 := some (lineD H a b)) (x10 := x10) h hb ha hb' bU bC
  have eU : pD (n1 - 2, n2 - 2) = .tup [.int (n1 - 2), .int (n2 - 2)] := rfl
  rw [eU] at f1
  unfold DRW
  cases e : (clipQ H a b).isNone with
  | false =>
    rw [e] at f1
    refine ⟨c4, some (.tup [.int (n1 - 2), .int (n2 - 2)]), some (pD C), ?_, P4⟩
    simp! only [r1, r2, r3, r4, rt, f1]
  | true =>
    rw [e] at f1
    have la := line_apart (a := a) (b := b) h h.len ha.bp hb'.bp
    rw [e] at la
    obtain ⟨e0, ef⟩ : ∃ e0, lineO H a b = some e0 := by
      cases ef : lineO H a b with
      | none => rw [ef] at la; cases la
      | some e0 => exact ⟨e0, rfl⟩
    obtain ⟨b1, b2⟩ := line_b2 h hb ha hb' (List.mem_of_find?_eq_some ef)
    have ld : lineD H a b = .tup [pD e0, pD (lineC (lcmQ a b) H (eA a b) (eB a b) e0)] := by unfold lineD; rw [ef]; rfl
    rw [ld] at f1 ⊢
    generalize lineC (lcmQ a b) H (eA a b) (eB a b) e0 = L at *
    have r5 := run_next (r := r) P4 (l := 2) (by decide) (by decide)
    obtain ⟨v5, P5⟩ := next_ok P4 (l := 2) (by decide)
    by_cases k : nextV c4 2 = 1
    · rw [k] at r5
      obtain ⟨c5, ec5⟩ : ∃ c5, c5 = nextC c4 2 := ⟨_, rfl⟩
      rw [← ec5] at r5 P5
      have r6 := run_next (r := r) P5 (l := 2) (by decide) (by decide)
      obtain ⟨v6, P6⟩ := next_ok P5 (l := 2) (by decide)
      have r7 := run_next (r := r) P6 (l := 2) (by decide) (by decide)
      obtain ⟨v7, P7⟩ := next_ok P6 (l := 2) (by decide)
      obtain ⟨u, hu, bu⟩ := pickP b1 bU v6.1 v6.2
      obtain ⟨w, hw, bw⟩ := pickP b2 bC v7.1 v7.2
      rw [eU] at hu
      have f2 := run_fin (s := nextC (nextC c5 2) 2 :: r) (x0 := x0) (x1 := some (.ptr 0)) (x2 := x2) (x8 := some (.bl true)) (x9 := some (.tup [pD e0, pD L])) (x10 := x10) h hb ha hb' bu bw
      refine ⟨nextC (nextC c5 2) 2, some (pD u), some (pD w), ?_, P7⟩
      simp! only [r1, r2, r3, r4, rt, r5, r6, r7, hu, hw, f2]
    · obtain ⟨c5, ec5⟩ : ∃ c5, c5 = nextC c4 2 := ⟨_, rfl⟩
      rw [← ec5] at r5 P5
      have f2 := run_fin (s := c5 :: r) (x0 := x0) (x1 := some (.ptr 0)) (x2 := x2) (x8 := some (.bl true)) (x9 := some (.tup [pD e0, pD L])) (x10 := x10) h hb ha hb' bU bC
      rw [eU] at f2
      refine ⟨c5, some (.tup [.int (n1 - 2), .int (n2 - 2)]), some (pD C), ?_, P5⟩
      simp! only [r1, r2, r3, r4, rt, r5, k, f2]
/-- one piece and one segment -/
theorem run_one {c : Cell} {r : S} {x0 x2 x3 x4 x5 x6 x7 x8 x9 x10 x11 x12 : Option D} (P : Pot c) : ∃ (c' : Cell) (y3 y4 y5 y6 y7 y8 y9 y10 y11 y12 : Option D), B_law_1 [x0, some (.ptr 0), x2, x3, x4, x5, x6, x7, x8, x9, x10, x11, x12] (c :: r) = .ok (.nx [x0, some (.ptr 0), x2, y3, y4, y5, y6, y7, y8, y9, y10, y11, y12]) (c' :: r) ∧ Pot c' := by
  have r0 := run_next (r := r) P (l := 3) (by decide) (by decide)
  obtain ⟨v0, P0⟩ := next_ok P (l := 3) (by decide)
  have r1 := run_next (r := r) P0 (l := 2) (by decide) (by decide)
  obtain ⟨v1, P1⟩ := next_ok P0 (l := 2) (by decide)
  obtain ⟨z, hz, hz2⟩ := pick2 (a := 2) (b := 5) v1.1 v1.2
  obtain ⟨H, c2, e2, P2', hH⟩ := run_piece (r := r) (a := (nextV c 3, 2)) (size := z) P1 (by omega) (by omega) (by simp only []; omega)
  simp only [pD] at e2
  have bH : ∀ q ∈ H, (0 ≤ q.1 ∧ q.1 < 8) ∧ (0 ≤ q.2 ∧ q.2 < 8) := fun q hq => by
    have b := hH.box q hq
    have := b.x
    have := b.y
    simp only [] at *
    omega
  have cH : ∀ q ∈ H, C30 q := fun q hq => by
    have := bH q hq
    exact ⟨bt_small (by decide) (by omega), bt_small (by decide) (by omega)⟩
  obtain ⟨a, c5, e5, P5, ba⟩ := run_placeS (r := r) (w := 8) (h := 8) P2' (by decide) (by decide) (by decide) (by decide)
  obtain ⟨b0, c6, e6, P6, bb0⟩ := run_placeS (r := r) (w := 8) (h := 8) P5 (by decide) (by decide) (by decide) (by decide)
  have r7 := run_next (r := r) P6 (l := 4) (by decide) (by decide)
  obtain ⟨v7, P7⟩ := next_ok P6 (l := 4) (by decide)
  obtain ⟨b, eb, bb⟩ : ∃ b : Pt, atI [ptD a, ptD b0] (if decide (0 < nextV c6 4) = true then 1 else 0) = some (ptD b) ∧ SmP b := by
    by_cases k : 0 < nextV c6 4
    · rw [if_pos (decide_eq_true k)]
      exact ⟨b0, PL.at1 _ _ _, bb0⟩
    · rw [if_neg (by simpa using k)]
      exact ⟨a, PL.at0 _ _, ba⟩
  obtain ⟨y10, em⟩ := run_midl (s := nextC c6 4 :: r) (x0 := x0) (x1 := some (.ptr 0)) (x2 := x2) (x6 := x6) (x7 := x7) (x8 := x8) (x9 := x9) (x10 := x10) (x11 := x11) (x12 := x12) hH.ok cH ba bb
  obtain ⟨c', y11, y12, ed, P'⟩ := run_drw (r := r) (x0 := x0) (x2 := x2) (x10 := y10) (x11 := x11) (x12 := x12) P7 hH.ok cH ba bb
  rw [body_eq]
  refine ⟨c', some (.tup (H.map pD)), some (ptD a), some (ptD b), some (t3 (scaleQ a)), some (t3 (scaleQ b)), some (.bl (clipQ H a b).isNone), some (lineD H a b), y10, y11, y12, ?_, P'⟩
  simp! only [r0, r1, hz, e2, e5, e6, r7, eb, em, ed]
end
theorem law_cut {m : PL.Env → M Out} {N : Nat} {ds : List D} (h : ∃ s', m (startE N ds) [] = .ok (.rt (.bl true)) s') : ∃ s1, fnF N m ds [] = .ok (.bl true) s1 := by
  obtain ⟨s', h⟩ := h
  refine ⟨[], ?_⟩
  rw [fnF_run, h, on_ok, outM_rt]
  exact cutR_ok ⟨Nat.zero_le _, fun i c hi _ => absurd hi (Nat.not_lt_zero _)⟩ (.bl true) List.take_zero
theorem law_true (ns : List Int) (h63 : ns.length ≤ 63) : ∃ s', F_law [.flst (ns.map D.int)] [] = .ok (.bl true) s' := by
  obtain ⟨c, hp, P⟩ := run_pot ns h63
  obtain ⟨env', s', el, c', x2, x3, x4, x5, x6, x7, x8, x9, x10, x11, x12, rfl, rfl, P'⟩ := loop_fold (r := ⟨(List.range 4).map fun (i : Nat) => D.int (i : Int), none⟩) (g := gNm 2) (b := B_law_1) (enc := fun (i : Nat) => D.int (i : Int)) (step := fun (_ : Unit) (_ : Nat) => ())
    (fun _ env s' => ∃ (c' : Cell) (x2 x3 x4 x5 x6 x7 x8 x9 x10 x11 x12 : Option D), env = [some (.flst (ns.map D.int)), some (.ptr 0), x2, x3, x4, x5, x6, x7, x8, x9, x10, x11, x12] ∧ s' = c' :: [] ∧ Pot c') (fun _ _ _ _ => trivial) (List.range 4) () [some (.flst (ns.map D.int)), some (.ptr 0), none, none, none, none, none, none, none, none, none, none, none] [c] ⟨c, none, none, none, none, none, none, none, none, none, none, none, rfl, rfl, P⟩ (by
      rintro i _ _ env s' ⟨c', x2, x3, x4, x5, x6, x7, x8, x9, x10, x11, x12, rfl, rfl, P'⟩
      obtain ⟨c2, y3, y4, y5, y6, y7, y8, y9, y10, y11, y12, e, P2'⟩ := run_one (r := []) (x0 := some (.flst (ns.map D.int))) (x2 := some (.int (i : Int))) (x3 := x3) (x4 := x4) (x5 := x5) (x6 := x6) (x7 := x7) (x8 := x8) (x9 := x9) (x10 := x10) (x11 := x11) (x12 := x12) P'
      refine ⟨_, _, ?_, c2, some (.int (i : Int)), y3, y4, y5, y6, y7, y8, y9, y10, y11, y12, rfl, rfl, P2'⟩
      rw [gNm_run, on_ok]
      exact e)
  refine law_cut ⟨c' :: [], ?_⟩
  unfold m_law
  simp! only [hp, rngB4, el]

section
variable {P : Program} {w : World} {K : PySem.W.Frag} {mg : Str → Option Value} {base : Heap}
theorem ok__law_pot {f__law_pot : Addr} {fd__law_pot : FuncData} (D__law_pot : DefOk K mg "_law_pot" s__law_pot ["script"] f__law_pot fd__law_pot)
    (z_int : mg "int" = none)
    (z_list : mg "list" = none) : FnOk P w K mg base CX0 1 f__law_pot fd__law_pot ["script"] (spM K 1 F__law_pot) := by
  exact fn_ok D__law_pot.fn sc__law_pot rfl fun cdv A outer s H E hr =>
      (sss_cons (ss_set 1 sc__law_pot.nd se_int)
      (sss_cons (ss_for PassesOwn.never rfl (si_seq (se_var 0)) (sg_name 2 sc__law_pot.nd) (sss_one (ss_set 1 sc__law_pot.nd (se_mod (se_callTy cr_int (by rfl) z_int (by decide +kernel) (sa_cons (se_add (se_mul (se_var 1) se_int) (se_var 2)) sa_nil)) se_int))))
      (sss_one (ss_ret (se_lst (sa_cons (se_callTy cr_listF (by rfl) z_list (by decide +kernel) (sa_cons (se_var 0) sa_nil)) (sa_cons se_int (sa_cons se_int (sa_cons (se_var 1) sa_nil)))))))))
theorem ok__law_next {f__law_next : Addr} {fd__law_next : FuncData} (D__law_next : DefOk K mg "_law_next" s__law_next ["pot", "limit"] f__law_next fd__law_next)
    (z_len : mg "len" = none)
    (z_int : mg "int" = none)
    (z_abs : mg "abs" = none) : FnOk P w K mg base CX0 1 f__law_next fd__law_next ["pot", "limit"] (spM K 2 F__law_next) := by
  exact fn_okF D__law_next.fn sc__law_next rfl fun cdv A outer s H E hr =>
      (sss_cons (ss_if (st_w (sw_and (st_cmp (op_eqDD hr.units) (se_ix (hu_of hr) (se_var 0) se_int (fun _ _ => rfl)) se_int (by first | exact nomark _ | rfl)) (sw_and1 (st_cmp (op_ltD hr.units0) (se_ix (hu_of hr) (se_var 0) se_int (fun _ _ => rfl)) (se_callB cr_len (by rfl) z_len (by decide +kernel) (sa_cons (se_ix (hu_of hr) (se_var 0) se_int (fun _ _ => rfl)) sa_nil)) (by first | exact nomark _ | rfl))))) (sss_cons (ss_set 3 sc__law_next.nd (se_callB cr_abs (by rfl) z_abs (by decide +kernel) (sa_cons (se_callTy cr_int (by rfl) z_int (by decide +kernel) (sa_cons (se_ix (hu_of hr) (se_ix (hu_of hr) (se_var 0) se_int (fun _ _ => rfl)) (se_ix (hu_of hr) (se_var 0) se_int (fun _ _ => rfl)) (fun _ _ => rfl)) sa_nil)) sa_nil)))
      (sss_cons (ss_asg (se_add (se_ix (hu_of hr) (se_var 0) se_int (fun _ _ => rfl)) se_int) (sg_subL (se_var 0) se_int))
      (sss_cons (ss_if (st_cmp (op_ltD hr.units0) (se_var 3) (se_pow se_int se_int) (by first | exact nomark _ | rfl)) (sss_one (ss_ret (se_mod (se_callTy cr_int (by rfl) z_int (by decide +kernel) (sa_cons (se_var 3) sa_nil)) (se_var 1)))) sss_nil)
      (sss_one (ss_asg (se_var 3) (sg_subL (se_var 0) se_int)))))) sss_nil)
      (sss_cons (ss_if (st_cmp op_gtD (se_ix (hu_of hr) (se_var 0) se_int (fun _ _ => rfl)) se_int (by first | exact nomark _ | rfl)) (sss_cons (ss_set 4 sc__law_next.nd (se_mod (se_callTy cr_int (by rfl) z_int (by decide +kernel) (sa_cons (se_ix (hu_of hr) (se_var 0) se_int (fun _ _ => rfl)) sa_nil)) (se_var 1)))
      (sss_cons (ss_asg (se_fdiv (se_ix (hu_of hr) (se_var 0) se_int (fun _ _ => rfl)) (se_var 1)) (sg_subL (se_var 0) se_int))
      (sss_one (ss_ret (se_var 4))))) sss_nil)
      (sss_cons (ss_asg (se_mod (se_callTy cr_int (by rfl) z_int (by decide +kernel) (sa_cons (se_add (se_mul (se_ix (hu_of hr) (se_var 0) se_int (fun _ _ => rfl)) se_int) se_int) sa_nil)) se_int) (sg_subL (se_var 0) se_int))
      (sss_cons (ss_set 2 sc__law_next.nd (se_mod (se_callTy cr_int (by rfl) z_int (by decide +kernel) (sa_cons (se_add (se_mul (se_ix (hu_of hr) (se_var 0) se_int (fun _ _ => rfl)) se_int) (se_fdiv (se_ix (hu_of hr) (se_var 0) se_int (fun _ _ => rfl)) se_int)) sa_nil)) se_int))
      (sss_one (ss_ret (se_mod (se_callTy cr_int (by rfl) z_int (by decide +kernel) (sa_cons (se_var 2) sa_nil)) (se_var 1))))))))
theorem ok__law_area {f__law_area : Addr} {fd__law_area : FuncData} (D__law_area : DefOk K mg "_law_area" s__law_area ["a", "b", "c"] f__law_area fd__law_area) : FnOk P w K mg base CX0 1 f__law_area fd__law_area ["a", "b", "c"] (spM K 3 F__law_area) := by
  exact fn_okF D__law_area.fn sc__law_area rfl fun cdv A outer s H E hr =>
      (sss_one (ss_ret (se_sub (se_mul (se_sub (se_ix (hu_of hr) (se_var 1) se_int (fun _ _ => rfl)) (se_ix (hu_of hr) (se_var 0) se_int (fun _ _ => rfl))) (se_sub (se_ix (hu_of hr) (se_var 2) se_int (fun _ _ => rfl)) (se_ix (hu_of hr) (se_var 0) se_int (fun _ _ => rfl)))) (se_mul (se_sub (se_ix (hu_of hr) (se_var 1) se_int (fun _ _ => rfl)) (se_ix (hu_of hr) (se_var 0) se_int (fun _ _ => rfl))) (se_sub (se_ix (hu_of hr) (se_var 2) se_int (fun _ _ => rfl)) (se_ix (hu_of hr) (se_var 0) se_int (fun _ _ => rfl)))))))
theorem ok__law_hull {f__law_hull : Addr} {fd__law_hull : FuncData} (D__law_hull : DefOk K mg "_law_hull" s__law_hull ["corners"] f__law_hull fd__law_hull)
    {f__law_area : Addr} {fd__law_area : FuncData} (D__law_area : DefOk K mg "_law_area" s__law_area ["a", "b", "c"] f__law_area fd__law_area)
    (G__law_area : FnOk P w K mg base CX0 1 f__law_area fd__law_area ["a", "b", "c"] (spM K 3 F__law_area))
    (z_sorted : mg "sorted" = none)
    (z_dict : mg "dict" = none)
    (z_len : mg "len" = none)
    (z_tuple : mg "tuple" = none)
    (z_range : mg "range" = none) : FnOk P w K mg base CX0 2 f__law_hull fd__law_hull ["corners"] (spM K 1 F__law_hull) := by
  exact fn_okF D__law_hull.fn sc__law_hull rfl fun cdv A outer s H E hr =>
      (sss_cons (ss_set 1 sc__law_hull.nd (se_sd rfl hr.units (se_compF (own := [("corner", 6)]) rfl sc__law_hull.nd (si_seq (se_var 0)) (blkOk_by (own := [("corner", 6)]) (N := N__law_hull) (sc := defScope s__law_hull) (by decide +kernel)) (gt_name (by decide)) (fun _ _ _ _ _ => pg_name (i := 6) sc__law_hull.nd rfl (.inl rfl)) (fun _ _ _ _ _ => sts_nil) (fun _ _ _ _ _ => (se_tup (sa_cons (se_var 6) (sa_cons se_bl sa_nil))))) (by rfl) z_sorted (by rfl) z_dict))
      (sss_cons (ss_if (st_cmp (op_eqDD hr.units) (se_callB cr_len (by rfl) z_len (by decide +kernel) (sa_cons (se_var 1) sa_nil)) se_int (by first | exact nomark _ | rfl)) (sss_one (ss_ret (se_callTy cr_tuple (by rfl) z_tuple (by decide +kernel) (sa_cons (se_var 1) sa_nil)))) sss_nil)
      (sss_cons (ss_set 2 sc__law_hull.nd (se_lst (sa_cons (se_ix (hu_of hr) (se_var 1) se_int (fun _ _ => rfl)) sa_nil)))
      (sss_cons (ss_for PassesOwn.never rfl (si_range1 (by rfl) z_range (sa_cons (se_callB cr_len (by rfl) z_len (by decide +kernel) (sa_cons (se_var 1) sa_nil)) sa_nil)) (sg_name 3 sc__law_hull.nd) (sss_cons (ss_set 4 sc__law_hull.nd (se_ix (hu_of hr) (se_var 2) (se_sub (se_callB cr_len (by rfl) z_len (by decide +kernel) (sa_cons (se_var 2) sa_nil)) se_int) (fun _ _ => rfl)))
      (sss_cons (ss_set 5 sc__law_hull.nd (se_if (st_cmp (op_neDD hr.units) (se_ix (hu_of hr) (se_var 1) se_int (fun _ _ => rfl)) (se_var 4) (by first | exact nomark _ | rfl)) (se_ix (hu_of hr) (se_var 1) se_int (fun _ _ => rfl)) (se_ix (hu_of hr) (se_var 1) se_int (fun _ _ => rfl))))
      (sss_cons (ss_for PassesOwn.never rfl (si_seq (se_var 1)) (sg_name 6 sc__law_hull.nd) (sss_cons (ss_set 7 sc__law_hull.nd (se_call (n := 3) G__law_area (hr.mono (by decide)) (by rfl) D__law_area.m D__law_area.fn.kp D__law_area.b passA (sa_cons (se_var 4) (sa_cons (se_var 5) (sa_cons (se_var 6) sa_nil)))))
      (sss_cons (ss_set 8 sc__law_hull.nd (se_add (se_pow (se_sub (se_ix (hu_of hr) (se_var 6) se_int (fun _ _ => rfl)) (se_ix (hu_of hr) (se_var 4) se_int (fun _ _ => rfl))) se_int) (se_pow (se_sub (se_ix (hu_of hr) (se_var 6) se_int (fun _ _ => rfl)) (se_ix (hu_of hr) (se_var 4) se_int (fun _ _ => rfl))) se_int)))
      (sss_one (ss_if (st_w (sw_and (st_cmp (op_neDD hr.units) (se_var 6) (se_var 4) (by first | exact nomark _ | rfl)) (sw_and1 (st_w (sw_or (st_cmp (op_ltD hr.units0) (se_var 7) se_int (by first | exact nomark _ | rfl)) (sw_or1 (st_w (sw_and (st_cmp (op_eqDD hr.units) (se_var 7) se_int (by first | exact nomark _ | rfl)) (sw_and1 (st_cmp op_gtD (se_var 8) (se_add (se_pow (se_sub (se_ix (hu_of hr) (se_var 5) se_int (fun _ _ => rfl)) (se_ix (hu_of hr) (se_var 4) se_int (fun _ _ => rfl))) se_int) (se_pow (se_sub (se_ix (hu_of hr) (se_var 5) se_int (fun _ _ => rfl)) (se_ix (hu_of hr) (se_var 4) se_int (fun _ _ => rfl))) se_int)) (by first | exact nomark _ | rfl))))))))))) (sss_one (ss_set 5 sc__law_hull.nd (se_var 6))) sss_nil)))))
      (sss_cons (ss_if (st_cmp (op_eqDD hr.units) (se_var 5) (se_ix (hu_of hr) (se_var 2) se_int (fun _ _ => rfl)) (by first | exact nomark _ | rfl)) (sss_one (ss_ret (se_callTy cr_tuple (by rfl) z_tuple (by decide +kernel) (sa_cons (se_var 2) sa_nil)))) sss_nil)
      (sss_one (ss_expr (se_append (se_var 2) (sa_cons (se_var 5) sa_nil)))))))))
      (sss_one (ss_ret (se_callTy cr_tuple (by rfl) z_tuple (by decide +kernel) (sa_cons (se_var 2) sa_nil))))))))
theorem ok__law_piece {f__law_piece : Addr} {fd__law_piece : FuncData} (D__law_piece : DefOk K mg "_law_piece" s__law_piece ["pot", "at", "size"] f__law_piece fd__law_piece)
    {f__law_next : Addr} {fd__law_next : FuncData} (D__law_next : DefOk K mg "_law_next" s__law_next ["pot", "limit"] f__law_next fd__law_next)
    (G__law_next : FnOk P w K mg base CX0 1 f__law_next fd__law_next ["pot", "limit"] (spM K 2 F__law_next))
    {f__law_hull : Addr} {fd__law_hull : FuncData} (D__law_hull : DefOk K mg "_law_hull" s__law_hull ["corners"] f__law_hull fd__law_hull)
    (G__law_hull : FnOk P w K mg base CX0 2 f__law_hull fd__law_hull ["corners"] (spM K 1 F__law_hull))
    (z_range : mg "range" = none) : FnOk P w K mg base CX0 3 f__law_piece fd__law_piece ["pot", "at", "size"] (spM K 3 F__law_piece) := by
  exact fn_okF D__law_piece.fn sc__law_piece rfl fun cdv A outer s H E hr =>
      (sss_cons (ss_set 3 sc__law_piece.nd (se_ix (hu_of hr) (se_lstF (sa_cons se_int (sa_cons se_int (sa_cons se_int (sa_cons se_int (sa_cons se_int (sa_cons se_int sa_nil))))))) (se_call (n := 2) G__law_next (hr.mono (by decide)) (by rfl) D__law_next.m D__law_next.fn.kp D__law_next.b passA (sa_cons (se_var 0) (sa_cons se_int sa_nil))) (fun _ _ => rfl)))
      (sss_cons (ss_set 4 sc__law_piece.nd (se_lst sa_nil))
      (sss_cons (ss_for PassesOwn.never rfl (si_range1 (by rfl) z_range (sa_cons (se_var 3) sa_nil)) (sg_name 5 sc__law_piece.nd) (sss_one (ss_expr (se_append (se_var 4) (sa_cons (se_tup (sa_cons (se_add (se_ix (hu_of hr) (se_var 1) se_int (fun _ _ => rfl)) (se_call (n := 2) G__law_next (hr.mono (by decide)) (by rfl) D__law_next.m D__law_next.fn.kp D__law_next.b passA (sa_cons (se_var 0) (sa_cons (se_var 2) sa_nil)))) (sa_cons (se_add (se_ix (hu_of hr) (se_var 1) se_int (fun _ _ => rfl)) (se_call (n := 2) G__law_next (hr.mono (by decide)) (by rfl) D__law_next.m D__law_next.fn.kp D__law_next.b passA (sa_cons (se_var 0) (sa_cons (se_var 2) sa_nil)))) sa_nil))) sa_nil)))))
      (sss_one (ss_ret (se_call (n := 1) G__law_hull (hr.mono (by decide)) (by rfl) D__law_hull.m D__law_hull.fn.kp D__law_hull.b passA (sa_cons (se_var 4) sa_nil)))))))
theorem ok__law_ratio {f__law_ratio : Addr} {fd__law_ratio : FuncData} (D__law_ratio : DefOk K mg "_law_ratio" s__law_ratio ["n", "d"] f__law_ratio fd__law_ratio)
    (z_range : mg "range" = none)
    (z_int : mg "int" = none) : FnOk P w K mg base CX0 1 f__law_ratio fd__law_ratio ["n", "d"] (spM K 2 F__law_ratio) := by
  exact fn_okF D__law_ratio.fn sc__law_ratio rfl fun cdv A outer s H E hr =>
      (sss_cons (ss_for PassesOwn.never rfl (si_seq (se_lstF (sa_cons se_int (sa_cons se_int (sa_cons se_int sa_nil))))) (sg_name 2 sc__law_ratio.nd) (sss_one (ss_for PassesOwn.never rfl (si_range1 (by rfl) z_range (sa_cons se_int sa_nil)) (sg_name 3 sc__law_ratio.nd) (sss_one (ss_if (st_w (sw_and (st_cmp (op_eqDD hr.units) (se_mod (se_callTy cr_int (by rfl) z_int (by decide +kernel) (sa_cons (se_var 0) sa_nil)) (se_var 2)) se_int (by first | exact nomark _ | rfl)) (sw_and (st_cmp (op_eqDD hr.units) (se_mod (se_callTy cr_int (by rfl) z_int (by decide +kernel) (sa_cons (se_var 1) sa_nil)) (se_var 2)) se_int (by first | exact nomark _ | rfl)) (sw_and1 (st_cmp op_gtD (se_var 1) se_int (by first | exact nomark _ | rfl)))))) (sss_cons (ss_set 0 sc__law_ratio.nd (se_fdiv (se_var 0) (se_var 2)))
      (sss_one (ss_set 1 sc__law_ratio.nd (se_fdiv (se_var 1) (se_var 2))))) sss_nil)))))
      (sss_cons (ss_if (st_cmp (op_eqDD hr.units) (se_var 0) se_int (by first | exact nomark _ | rfl)) (sss_one (ss_set 1 sc__law_ratio.nd se_int)) sss_nil)
      (sss_one (ss_ret (se_tup (sa_cons (se_var 0) (sa_cons (se_var 1) sa_nil)))))))
theorem ok__law_place {f__law_place : Addr} {fd__law_place : FuncData} (D__law_place : DefOk K mg "_law_place" s__law_place ["pot", "width", "height"] f__law_place fd__law_place)
    {f__law_next : Addr} {fd__law_next : FuncData} (D__law_next : DefOk K mg "_law_next" s__law_next ["pot", "limit"] f__law_next fd__law_next)
    (G__law_next : FnOk P w K mg base CX0 1 f__law_next fd__law_next ["pot", "limit"] (spM K 2 F__law_next))
    {f__law_ratio : Addr} {fd__law_ratio : FuncData} (D__law_ratio : DefOk K mg "_law_ratio" s__law_ratio ["n", "d"] f__law_ratio fd__law_ratio)
    (G__law_ratio : FnOk P w K mg base CX0 1 f__law_ratio fd__law_ratio ["n", "d"] (spM K 2 F__law_ratio)) : FnOk P w K mg base CX0 2 f__law_place fd__law_place ["pot", "width", "height"] (spM K 3 F__law_place) := by
  exact fn_okF D__law_place.fn sc__law_place rfl fun cdv A outer s H E hr =>
      (sss_cons (ss_set 3 sc__law_place.nd (se_ix (hu_of hr) (se_lstF (sa_cons se_int (sa_cons se_int (sa_cons se_int (sa_cons se_int sa_nil))))) (se_call (n := 2) G__law_next (hr.mono (by decide)) (by rfl) D__law_next.m D__law_next.fn.kp D__law_next.b passA (sa_cons (se_var 0) (sa_cons se_int sa_nil))) (fun _ _ => rfl)))
      (sss_one (ss_ret (se_tup (sa_cons (se_call (n := 2) G__law_ratio (hr.mono (by decide)) (by rfl) D__law_ratio.m D__law_ratio.fn.kp D__law_ratio.b passA (sa_cons (se_call (n := 2) G__law_next (hr.mono (by decide)) (by rfl) D__law_next.m D__law_next.fn.kp D__law_next.b passA (sa_cons (se_var 0) (sa_cons (se_add (se_mul (se_var 1) (se_var 3)) se_int) sa_nil))) (sa_cons (se_var 3) sa_nil))) (sa_cons (se_call (n := 2) G__law_ratio (hr.mono (by decide)) (by rfl) D__law_ratio.m D__law_ratio.fn.kp D__law_ratio.b passA (sa_cons (se_call (n := 2) G__law_next (hr.mono (by decide)) (by rfl) D__law_next.m D__law_next.fn.kp D__law_next.b passA (sa_cons (se_var 0) (sa_cons (se_add (se_mul (se_var 2) (se_var 3)) se_int) sa_nil))) (sa_cons (se_var 3) sa_nil))) sa_nil))))))
theorem ok__law_scale {f__law_scale : Addr} {fd__law_scale : FuncData} (D__law_scale : DefOk K mg "_law_scale" s__law_scale ["p"] f__law_scale fd__law_scale) : FnOk P w K mg base CX0 1 f__law_scale fd__law_scale ["p"] (spM K 1 F__law_scale) := by
  exact fn_okF D__law_scale.fn sc__law_scale rfl fun cdv A outer s H E hr =>
      (sss_one (ss_ret (se_tup (sa_cons (se_mul (se_ix (hu_of hr) (se_ix (hu_of hr) (se_var 0) se_int (fun _ _ => rfl)) se_int (fun _ _ => rfl)) (se_ix (hu_of hr) (se_ix (hu_of hr) (se_var 0) se_int (fun _ _ => rfl)) se_int (fun _ _ => rfl))) (sa_cons (se_mul (se_ix (hu_of hr) (se_ix (hu_of hr) (se_var 0) se_int (fun _ _ => rfl)) se_int (fun _ _ => rfl)) (se_ix (hu_of hr) (se_ix (hu_of hr) (se_var 0) se_int (fun _ _ => rfl)) se_int (fun _ _ => rfl))) (sa_cons (se_mul (se_ix (hu_of hr) (se_ix (hu_of hr) (se_var 0) se_int (fun _ _ => rfl)) se_int (fun _ _ => rfl)) (se_ix (hu_of hr) (se_ix (hu_of hr) (se_var 0) se_int (fun _ _ => rfl)) se_int (fun _ _ => rfl))) sa_nil))))))
theorem ok__law_corners {f__law_corners : Addr} {fd__law_corners : FuncData} (D__law_corners : DefOk K mg "_law_corners" s__law_corners ["piece"] f__law_corners fd__law_corners) : FnOk P w K mg base CX0 1 f__law_corners fd__law_corners ["piece"] (spM K 1 F__law_corners) := by
  exact fn_okF D__law_corners.fn sc__law_corners rfl fun cdv A outer s H E hr =>
      (sss_one (ss_ret (se_compF (own := [("corner", 1)]) rfl sc__law_corners.nd (si_seq (se_var 0)) (blkOk_by (own := [("corner", 1)]) (N := N__law_corners) (sc := defScope s__law_corners) (by decide +kernel)) (gt_name (by decide)) (fun _ _ _ _ _ => pg_name (i := 1) sc__law_corners.nd rfl (.inl rfl)) (fun _ _ _ _ _ => sts_nil) (fun _ _ _ _ _ => (se_tup (sa_cons (se_ix (hu_of hr) (se_var 1) se_int (fun _ _ => rfl)) (sa_cons (se_ix (hu_of hr) (se_var 1) se_int (fun _ _ => rfl)) (sa_cons se_int sa_nil))))))))
theorem ok__law_det {f__law_det : Addr} {fd__law_det : FuncData} (D__law_det : DefOk K mg "_law_det" s__law_det ["a", "b", "c"] f__law_det fd__law_det)
    (z_int : mg "int" = none) : FnOk P w K mg base CX0 1 f__law_det fd__law_det ["a", "b", "c"] (spM K 3 F__law_det) := by
  exact fn_okF D__law_det.fn sc__law_det rfl fun cdv A outer s H E hr =>
      (sss_cons (ss_set 3 sc__law_det.nd (se_mul (se_sub (se_mul (se_ix (hu_of hr) (se_var 1) se_int (fun _ _ => rfl)) (se_ix (hu_of hr) (se_var 0) se_int (fun _ _ => rfl))) (se_mul (se_ix (hu_of hr) (se_var 0) se_int (fun _ _ => rfl)) (se_ix (hu_of hr) (se_var 1) se_int (fun _ _ => rfl)))) (se_sub (se_mul (se_ix (hu_of hr) (se_var 2) se_int (fun _ _ => rfl)) (se_ix (hu_of hr) (se_var 0) se_int (fun _ _ => rfl))) (se_mul (se_ix (hu_of hr) (se_var 0) se_int (fun _ _ => rfl)) (se_ix (hu_of hr) (se_var 2) se_int (fun _ _ => rfl))))))
      (sss_cons (ss_set 4 sc__law_det.nd (se_mul (se_sub (se_mul (se_ix (hu_of hr) (se_var 1) se_int (fun _ _ => rfl)) (se_ix (hu_of hr) (se_var 0) se_int (fun _ _ => rfl))) (se_mul (se_ix (hu_of hr) (se_var 0) se_int (fun _ _ => rfl)) (se_ix (hu_of hr) (se_var 1) se_int (fun _ _ => rfl)))) (se_sub (se_mul (se_ix (hu_of hr) (se_var 2) se_int (fun _ _ => rfl)) (se_ix (hu_of hr) (se_var 0) se_int (fun _ _ => rfl))) (se_mul (se_ix (hu_of hr) (se_var 0) se_int (fun _ _ => rfl)) (se_ix (hu_of hr) (se_var 2) se_int (fun _ _ => rfl))))))
      (sss_one (ss_ret (se_sub (se_callTy cr_int (by rfl) z_int (by decide +kernel) (sa_cons (se_cmp op_gtD (se_var 3) (se_var 4) (by first | exact nomark _ | rfl)) sa_nil)) (se_callTy cr_int (by rfl) z_int (by decide +kernel) (sa_cons (se_cmp (op_ltD hr.units0) (se_var 3) (se_var 4) (by first | exact nomark _ | rfl)) sa_nil)))))))
theorem ok__law_mid {f__law_mid : Addr} {fd__law_mid : FuncData} (D__law_mid : DefOk K mg "_law_mid" s__law_mid ["a", "b", "c"] f__law_mid fd__law_mid) : FnOk P w K mg base CX0 1 f__law_mid fd__law_mid ["a", "b", "c"] (spM K 3 F__law_mid) := by
  exact fn_okF D__law_mid.fn sc__law_mid rfl fun cdv A outer s H E hr =>
      (sss_one (ss_ret (se_or (se_and (se_cmp op_leD (se_var 0) (se_var 1) (by first | exact nomark _ | rfl)) (se_one (se_cmp op_leD (se_var 1) (se_var 2) (by first | exact nomark _ | rfl)))) (se_one (se_and (se_cmp op_leD (se_var 2) (se_var 1) (by first | exact nomark _ | rfl)) (se_one (se_cmp op_leD (se_var 1) (se_var 0) (by first | exact nomark _ | rfl))))))))
theorem ok__law_on {f__law_on : Addr} {fd__law_on : FuncData} (D__law_on : DefOk K mg "_law_on" s__law_on ["p", "a", "b"] f__law_on fd__law_on)
    {f__law_det : Addr} {fd__law_det : FuncData} (D__law_det : DefOk K mg "_law_det" s__law_det ["a", "b", "c"] f__law_det fd__law_det)
    (G__law_det : FnOk P w K mg base CX0 1 f__law_det fd__law_det ["a", "b", "c"] (spM K 3 F__law_det))
    {f__law_mid : Addr} {fd__law_mid : FuncData} (D__law_mid : DefOk K mg "_law_mid" s__law_mid ["a", "b", "c"] f__law_mid fd__law_mid)
    (G__law_mid : FnOk P w K mg base CX0 1 f__law_mid fd__law_mid ["a", "b", "c"] (spM K 3 F__law_mid))
    (z_range : mg "range" = none)
    (z_all : mg "all" = none) : FnOk P w K mg base CX0 2 f__law_on fd__law_on ["p", "a", "b"] (spM K 3 F__law_on) := by
  exact fn_okF D__law_on.fn sc__law_on rfl fun cdv A outer s H E hr =>
      (sss_cons (ss_if (st_cmp (op_neDD hr.units) (se_call (n := 3) G__law_det (hr.mono (by decide)) (by rfl) D__law_det.m D__law_det.fn.kp D__law_det.b passA (sa_cons (se_var 1) (sa_cons (se_var 2) (sa_cons (se_var 0) sa_nil)))) se_int (by first | exact nomark _ | rfl)) (sss_one (ss_ret se_bl)) sss_nil)
      (sss_cons (ss_set 3 sc__law_on.nd (se_mul (se_ix (hu_of hr) (se_var 1) se_int (fun _ _ => rfl)) (se_ix (hu_of hr) (se_var 2) se_int (fun _ _ => rfl))))
      (sss_one (ss_ret (se_callB (cr_allD rfl) (by rfl) z_all (by decide +kernel) (sa_cons (se_compF (own := [("k", 4)]) rfl sc__law_on.nd (si_range1 (by rfl) z_range (sa_cons se_int sa_nil)) (blkOk_by (own := [("k", 4)]) (N := N__law_on) (sc := defScope s__law_on) (by decide +kernel)) (gt_name (by decide)) (fun _ _ _ _ _ => pg_name (i := 4) sc__law_on.nd rfl (.inl rfl)) (fun _ _ _ _ _ => sts_nil) (fun _ _ _ _ _ => (se_call (n := 3) G__law_mid (hr.mono (by decide)) (by rfl) D__law_mid.m D__law_mid.fn.kp D__law_mid.b passA (sa_cons (se_mul (se_mul (se_ix (hu_of hr) (se_var 1) (se_var 4) (fun _ _ => rfl)) (se_ix (hu_of hr) (se_var 2) se_int (fun _ _ => rfl))) (se_ix (hu_of hr) (se_var 0) se_int (fun _ _ => rfl))) (sa_cons (se_mul (se_ix (hu_of hr) (se_var 0) (se_var 4) (fun _ _ => rfl)) (se_var 3)) (sa_cons (se_mul (se_mul (se_ix (hu_of hr) (se_var 2) (se_var 4) (fun _ _ => rfl)) (se_ix (hu_of hr) (se_var 1) se_int (fun _ _ => rfl))) (se_ix (hu_of hr) (se_var 0) se_int (fun _ _ => rfl))) sa_nil)))))) sa_nil))))))
theorem ok__law_in {f__law_in : Addr} {fd__law_in : FuncData} (D__law_in : DefOk K mg "_law_in" s__law_in ["p", "corners"] f__law_in fd__law_in)
    {f__law_on : Addr} {fd__law_on : FuncData} (D__law_on : DefOk K mg "_law_on" s__law_on ["p", "a", "b"] f__law_on fd__law_on)
    (G__law_on : FnOk P w K mg base CX0 2 f__law_on fd__law_on ["p", "a", "b"] (spM K 3 F__law_on))
    {f__law_det : Addr} {fd__law_det : FuncData} (D__law_det : DefOk K mg "_law_det" s__law_det ["a", "b", "c"] f__law_det fd__law_det)
    (G__law_det : FnOk P w K mg base CX0 1 f__law_det fd__law_det ["a", "b", "c"] (spM K 3 F__law_det))
    (z_len : mg "len" = none)
    (z_range : mg "range" = none)
    (z_any : mg "any" = none) : FnOk P w K mg base CX0 3 f__law_in fd__law_in ["p", "corners"] (spM K 2 F__law_in) := by
  exact fn_okF D__law_in.fn sc__law_in rfl fun cdv A outer s H E hr =>
      (sss_cons (ss_if (st_cmp (op_ltD hr.units0) (se_callB cr_len (by rfl) z_len (by decide +kernel) (sa_cons (se_var 1) sa_nil)) se_int (by first | exact nomark _ | rfl)) (sss_one (ss_ret (se_call (n := 3) G__law_on (hr.mono (by decide)) (by rfl) D__law_on.m D__law_on.fn.kp D__law_on.b passA (sa_cons (se_var 0) (sa_cons (se_ix (hu_of hr) (se_var 1) se_int (fun _ _ => rfl)) (sa_cons (se_ix (hu_of hr) (se_var 1) (se_sub (se_callB cr_len (by rfl) z_len (by decide +kernel) (sa_cons (se_var 1) sa_nil)) se_int) (fun _ _ => rfl)) sa_nil)))))) sss_nil)
      (sss_cons (ss_for PassesOwn.never rfl (si_range2 (by rfl) z_range (sa_cons se_int (sa_cons (se_sub (se_callB cr_len (by rfl) z_len (by decide +kernel) (sa_cons (se_var 1) sa_nil)) se_int) sa_nil))) (sg_name 2 sc__law_in.nd) (sss_cons (ss_set 3 sc__law_in.nd (se_lstF (sa_cons (se_call (n := 3) G__law_det (hr.mono (by decide)) (by rfl) D__law_det.m D__law_det.fn.kp D__law_det.b passA (sa_cons (se_ix (hu_of hr) (se_var 1) se_int (fun _ _ => rfl)) (sa_cons (se_ix (hu_of hr) (se_var 1) (se_var 2) (fun _ _ => rfl)) (sa_cons (se_var 0) sa_nil)))) (sa_cons (se_call (n := 3) G__law_det (hr.mono (by decide)) (by rfl) D__law_det.m D__law_det.fn.kp D__law_det.b passA (sa_cons (se_ix (hu_of hr) (se_var 1) (se_var 2) (fun _ _ => rfl)) (sa_cons (se_ix (hu_of hr) (se_var 1) (se_add (se_var 2) se_int) (fun _ _ => rfl)) (sa_cons (se_var 0) sa_nil)))) (sa_cons (se_call (n := 3) G__law_det (hr.mono (by decide)) (by rfl) D__law_det.m D__law_det.fn.kp D__law_det.b passA (sa_cons (se_ix (hu_of hr) (se_var 1) (se_add (se_var 2) se_int) (fun _ _ => rfl)) (sa_cons (se_ix (hu_of hr) (se_var 1) se_int (fun _ _ => rfl)) (sa_cons (se_var 0) sa_nil)))) sa_nil)))))
      (sss_one (ss_if (st_not (st_truth (se_callB (cr_anyD rfl) (by rfl) z_any (by decide +kernel) (sa_cons (se_compF (own := [("sign", 4)]) rfl sc__law_in.nd (si_seq (se_var 3)) (blkOk_by (own := [("sign", 4)]) (N := N__law_in) (sc := defScope s__law_in) (by decide +kernel)) (gt_name (by decide)) (fun _ _ _ _ _ => pg_name (i := 4) sc__law_in.nd rfl (.inl rfl)) (fun _ _ _ _ _ => sts_nil) (fun _ _ _ _ _ => (se_cmp (op_ltD hr.units0) (se_var 4) se_int (by first | exact nomark _ | rfl)))) sa_nil)))) (sss_one (ss_ret se_bl)) sss_nil))))
      (sss_one (ss_ret se_bl))))
theorem ok__law_meet {f__law_meet : Addr} {fd__law_meet : FuncData} (D__law_meet : DefOk K mg "_law_meet" s__law_meet ["a", "b", "c", "d"] f__law_meet fd__law_meet)
    {f__law_on : Addr} {fd__law_on : FuncData} (D__law_on : DefOk K mg "_law_on" s__law_on ["p", "a", "b"] f__law_on fd__law_on)
    (G__law_on : FnOk P w K mg base CX0 2 f__law_on fd__law_on ["p", "a", "b"] (spM K 3 F__law_on))
    {f__law_det : Addr} {fd__law_det : FuncData} (D__law_det : DefOk K mg "_law_det" s__law_det ["a", "b", "c"] f__law_det fd__law_det)
    (G__law_det : FnOk P w K mg base CX0 1 f__law_det fd__law_det ["a", "b", "c"] (spM K 3 F__law_det)) : FnOk P w K mg base CX0 3 f__law_meet fd__law_meet ["a", "b", "c", "d"] (spM K 4 F__law_meet) := by
  exact fn_okF D__law_meet.fn sc__law_meet rfl fun cdv A outer s H E hr =>
      (sss_cons (ss_if (st_w (sw_or (st_truth (se_call (n := 3) G__law_on (hr.mono (by decide)) (by rfl) D__law_on.m D__law_on.fn.kp D__law_on.b passA (sa_cons (se_var 0) (sa_cons (se_var 2) (sa_cons (se_var 3) sa_nil))))) (sw_or (st_truth (se_call (n := 3) G__law_on (hr.mono (by decide)) (by rfl) D__law_on.m D__law_on.fn.kp D__law_on.b passA (sa_cons (se_var 1) (sa_cons (se_var 2) (sa_cons (se_var 3) sa_nil))))) (sw_or (st_truth (se_call (n := 3) G__law_on (hr.mono (by decide)) (by rfl) D__law_on.m D__law_on.fn.kp D__law_on.b passA (sa_cons (se_var 2) (sa_cons (se_var 0) (sa_cons (se_var 1) sa_nil))))) (sw_or1 (st_truth (se_call (n := 3) G__law_on (hr.mono (by decide)) (by rfl) D__law_on.m D__law_on.fn.kp D__law_on.b passA (sa_cons (se_var 3) (sa_cons (se_var 0) (sa_cons (se_var 1) sa_nil)))))))))) (sss_one (ss_ret se_bl)) sss_nil)
      (sss_one (ss_ret (se_and (se_cmp (op_ltD hr.units0) (se_mul (se_call (n := 3) G__law_det (hr.mono (by decide)) (by rfl) D__law_det.m D__law_det.fn.kp D__law_det.b passA (sa_cons (se_var 0) (sa_cons (se_var 1) (sa_cons (se_var 2) sa_nil)))) (se_call (n := 3) G__law_det (hr.mono (by decide)) (by rfl) D__law_det.m D__law_det.fn.kp D__law_det.b passA (sa_cons (se_var 0) (sa_cons (se_var 1) (sa_cons (se_var 3) sa_nil))))) se_int (by first | exact nomark _ | rfl)) (se_one (se_cmp (op_ltD hr.units0) (se_mul (se_call (n := 3) G__law_det (hr.mono (by decide)) (by rfl) D__law_det.m D__law_det.fn.kp D__law_det.b passA (sa_cons (se_var 2) (sa_cons (se_var 3) (sa_cons (se_var 0) sa_nil)))) (se_call (n := 3) G__law_det (hr.mono (by decide)) (by rfl) D__law_det.m D__law_det.fn.kp D__law_det.b passA (sa_cons (se_var 2) (sa_cons (se_var 3) (sa_cons (se_var 1) sa_nil))))) se_int (by first | exact nomark _ | rfl)))))))
theorem ok__law_apart {f__law_apart : Addr} {fd__law_apart : FuncData} (D__law_apart : DefOk K mg "_law_apart" s__law_apart ["a", "b", "corners"] f__law_apart fd__law_apart)
    {f__law_in : Addr} {fd__law_in : FuncData} (D__law_in : DefOk K mg "_law_in" s__law_in ["p", "corners"] f__law_in fd__law_in)
    (G__law_in : FnOk P w K mg base CX0 3 f__law_in fd__law_in ["p", "corners"] (spM K 2 F__law_in))
    {f__law_meet : Addr} {fd__law_meet : FuncData} (D__law_meet : DefOk K mg "_law_meet" s__law_meet ["a", "b", "c", "d"] f__law_meet fd__law_meet)
    (G__law_meet : FnOk P w K mg base CX0 3 f__law_meet fd__law_meet ["a", "b", "c", "d"] (spM K 4 F__law_meet))
    (z_range : mg "range" = none)
    (z_len : mg "len" = none)
    (z_any : mg "any" = none) : FnOk P w K mg base CX0 4 f__law_apart fd__law_apart ["a", "b", "corners"] (spM K 3 F__law_apart) := by
  exact fn_okF D__law_apart.fn sc__law_apart rfl fun cdv A outer s H E hr =>
      (sss_cons (ss_if (st_w (sw_or (st_truth (se_call (n := 2) G__law_in (hr.mono (by decide)) (by rfl) D__law_in.m D__law_in.fn.kp D__law_in.b passA (sa_cons (se_var 0) (sa_cons (se_var 2) sa_nil)))) (sw_or1 (st_truth (se_call (n := 2) G__law_in (hr.mono (by decide)) (by rfl) D__law_in.m D__law_in.fn.kp D__law_in.b passA (sa_cons (se_var 1) (sa_cons (se_var 2) sa_nil))))))) (sss_one (ss_ret se_bl)) sss_nil)
      (sss_one (ss_ret (se_not (se_callB (cr_anyD rfl) (by rfl) z_any (by decide +kernel) (sa_cons (se_compF (own := [("k", 3)]) rfl sc__law_apart.nd (si_range1 (by rfl) z_range (sa_cons (se_callB cr_len (by rfl) z_len (by decide +kernel) (sa_cons (se_var 2) sa_nil)) sa_nil)) (blkOk_by (own := [("k", 3)]) (N := N__law_apart) (sc := defScope s__law_apart) (by decide +kernel)) (gt_name (by decide)) (fun _ _ _ _ _ => pg_name (i := 3) sc__law_apart.nd rfl (.inl rfl)) (fun _ _ _ _ _ => sts_nil) (fun _ _ _ _ _ => (se_call (n := 4) G__law_meet (hr.mono (by decide)) (by rfl) D__law_meet.m D__law_meet.fn.kp D__law_meet.b passA (sa_cons (se_var 0) (sa_cons (se_var 1) (sa_cons (se_ix (hu_of hr) (se_var 2) (se_sub (se_var 3) se_int) (fun _ _ => rfl)) (sa_cons (se_ix (hu_of hr) (se_var 2) (se_var 3) (fun _ _ => rfl)) sa_nil))))))) sa_nil))))))
theorem ok_segment {f_segment : Addr} {fd_segment : FuncData} (D_segment : DefOk K mg "segment" s_segment ["a", "b"] f_segment fd_segment)
    (b_lcm : mg "lcm" = some (.builtin "math.lcm")) : FnOk P w K mg base CX0 1 f_segment fd_segment ["a", "b"] (spM K 2 F_segment) := by
  exact fn_okF D_segment.fn sc_segment rfl fun cdv A outer s H E hr =>
      (sss_cons (ss_asg (se_var 0) (sg_tup rfl (sgs_cons (sg_tup rfl (sgs_cons (sg_name 3 sc_segment.nd) (sgs_cons (sg_name 4 sc_segment.nd) sgs_nil))) (sgs_cons (sg_tup rfl (sgs_cons (sg_name 5 sc_segment.nd) (sgs_cons (sg_name 6 sc_segment.nd) sgs_nil))) sgs_nil))))
      (sss_cons (ss_asg (se_var 1) (sg_tup rfl (sgs_cons (sg_tup rfl (sgs_cons (sg_name 7 sc_segment.nd) (sgs_cons (sg_name 8 sc_segment.nd) sgs_nil))) (sgs_cons (sg_tup rfl (sgs_cons (sg_name 9 sc_segment.nd) (sgs_cons (sg_name 10 sc_segment.nd) sgs_nil))) sgs_nil))))
      (sss_cons (ss_set 2 sc_segment.nd (se_callBfun cr_lcmD (by rfl) b_lcm (sa_cons (se_var 4) (sa_cons (se_var 6) (sa_cons (se_var 8) (sa_cons (se_var 10) sa_nil))))))
      (sss_one (ss_ret (se_tup (sa_cons (se_mul (se_var 3) (se_fdiv (se_var 2) (se_var 4))) (sa_cons (se_mul (se_var 5) (se_fdiv (se_var 2) (se_var 6))) (sa_cons (se_mul (se_var 7) (se_fdiv (se_var 2) (se_var 8))) (sa_cons (se_mul (se_var 9) (se_fdiv (se_var 2) (se_var 10))) (sa_cons (se_var 2) sa_nil)))))))))))
theorem ok_sides_of {f_sides_of : Addr} {fd_sides_of : FuncData} (D_sides_of : DefOk K mg "sides_of" s_sides_of ["piece"] f_sides_of fd_sides_of)
    (z_zip : mg "zip" = none) : FnOk P w K mg base CX0 1 f_sides_of fd_sides_of ["piece"] (spM K 1 F_sides_of) := by
  exact fn_okF D_sides_of.fn sc_sides_of rfl fun cdv A outer s H E hr =>
      (sss_one (ss_ret (se_compF (own := [("a", 1), ("b", 2)]) rfl sc_sides_of.nd (si_zip (by rfl) z_zip (sa_cons (se_var 0) (sa_cons (se_add (se_slice (se_var 0) (so_some se_int) so_none) (se_slice (se_var 0) so_none (so_some se_int))) sa_nil))) (blkOk_by (own := [("a", 1), ("b", 2)]) (N := N_sides_of) (sc := defScope s_sides_of) (by decide +kernel)) (gt_of (gg_tup (gg_cons (gg_name (by decide)) (gg_cons (gg_name (by decide)) gg_nil)))) (fun _ _ _ _ _ => (pg_tup rfl (pgs_cons (pg_name (i := 1) sc_sides_of.nd rfl (.inl rfl)) (pgs_cons (pg_name (i := 2) sc_sides_of.nd rfl (.inl rfl)) pgs_nil)))) (fun _ _ _ _ _ => sts_nil) (fun _ _ _ _ _ => (se_add (se_add (se_var 1) (se_var 2)) (se_tup (sa_cons se_int sa_nil)))))))
theorem ok_lowest {f_lowest : Addr} {fd_lowest : FuncData} (D_lowest : DefOk K mg "lowest" s_lowest ["u", "v"] f_lowest fd_lowest)
    (b_gcd : mg "gcd" = some (.builtin "math.gcd")) : FnOk P w K mg base CX0 1 f_lowest fd_lowest ["u", "v"] (spM K 2 F_lowest) := by
  exact fn_okF D_lowest.fn sc_lowest rfl fun cdv A outer s H E hr =>
      (sss_cons (ss_set 2 sc_lowest.nd (se_callBfun cr_gcdD (by rfl) b_gcd (sa_cons (se_var 0) (sa_cons (se_var 1) sa_nil))))
      (sss_one (ss_ret (se_tup (sa_cons (se_fdiv (se_var 0) (se_var 2)) (sa_cons (se_fdiv (se_var 1) (se_var 2)) sa_nil))))))
theorem ok_planes_of {f_planes_of : Addr} {fd_planes_of : FuncData} (D_planes_of : DefOk K mg "planes_of" s_planes_of ["piece"] f_planes_of fd_planes_of)
    {f_sides_of : Addr} {fd_sides_of : FuncData} (D_sides_of : DefOk K mg "sides_of" s_sides_of ["piece"] f_sides_of fd_sides_of)
    (G_sides_of : FnOk P w K mg base CX0 1 f_sides_of fd_sides_of ["piece"] (spM K 1 F_sides_of))
    {f_lowest : Addr} {fd_lowest : FuncData} (D_lowest : DefOk K mg "lowest" s_lowest ["u", "v"] f_lowest fd_lowest)
    (G_lowest : FnOk P w K mg base CX0 1 f_lowest fd_lowest ["u", "v"] (spM K 2 F_lowest))
    (z_max : mg "max" = none)
    (z_min : mg "min" = none)
    (z_len : mg "len" = none)
    (z_list : mg "list" = none) : FnOk P w K mg base CX0 2 f_planes_of fd_planes_of ["piece"] (spM K 1 F_planes_of) := by
  exact fn_okF D_planes_of.fn sc_planes_of rfl fun cdv A outer s H E hr =>
      (sss_cons (ss_setCompF 1 (own := [("x", 9), ("_", 8)]) rfl sc_planes_of.nd (si_seq (se_var 0)) (blkOk_by (own := [("x", 9), ("_", 8)]) (N := N_planes_of) (sc := defScope s_planes_of) (by decide +kernel)) (gt_of (gg_tup (gg_cons (gg_name (by decide)) (gg_cons (gg_name (by decide)) gg_nil)))) (fun _ _ _ _ _ => (pg_tup rfl (pgs_cons (pg_name (i := 9) sc_planes_of.nd rfl (.inl rfl)) (pgs_cons (pg_name (i := 8) sc_planes_of.nd rfl (.inl rfl)) pgs_nil)))) (fun _ _ _ _ _ => sts_nil) (fun _ _ _ _ _ => (se_var 9)))
      (sss_cons (ss_setCompF 2 (own := [("_", 8), ("y", 10)]) rfl sc_planes_of.nd (si_seq (se_var 0)) (blkOk_by (own := [("_", 8), ("y", 10)]) (N := N_planes_of) (sc := defScope s_planes_of) (by decide +kernel)) (gt_of (gg_tup (gg_cons (gg_name (by decide)) (gg_cons (gg_name (by decide)) gg_nil)))) (fun _ _ _ _ _ => (pg_tup rfl (pgs_cons (pg_name (i := 8) sc_planes_of.nd rfl (.inl rfl)) (pgs_cons (pg_name (i := 10) sc_planes_of.nd rfl (.inl rfl)) pgs_nil)))) (fun _ _ _ _ _ => sts_nil) (fun _ _ _ _ _ => (se_var 10)))
      (sss_cons (ss_set 3 sc_planes_of.nd (se_dispT (Nat.lt_of_le_of_lt (Nat.le_add_right _ 1) (hu_of hr)) (stt_cons (se_key (sa_cons se_int (sa_cons se_int (sa_cons (se_callB (cr_minLD rfl (units66 hr)) (by rfl) z_min (by decide +kernel) (sa_cons (se_var 1) sa_nil)) sa_nil)))) se_bl (stt_cons (se_key (sa_cons (se_neg se_int) (sa_cons se_int (sa_cons (se_neg (se_callB (cr_maxLD rfl) (by rfl) z_max (by decide +kernel) (sa_cons (se_var 1) sa_nil))) sa_nil)))) se_bl (stt_cons (se_key (sa_cons se_int (sa_cons se_int (sa_cons (se_callB (cr_minLD rfl (units66 hr)) (by rfl) z_min (by decide +kernel) (sa_cons (se_var 2) sa_nil)) sa_nil)))) se_bl (stt_cons (se_key (sa_cons se_int (sa_cons (se_neg se_int) (sa_cons (se_neg (se_callB (cr_maxLD rfl) (by rfl) z_max (by decide +kernel) (sa_cons (se_var 2) sa_nil))) sa_nil)))) se_bl stt_nil))))))
      (sss_cons (ss_if (st_cmp op_gtD (se_callB cr_len (by rfl) z_len (by decide +kernel) (sa_cons (se_var 0) sa_nil)) se_int (by first | exact nomark _ | rfl)) (sss_one (ss_for PassesOwn.never rfl (si_seq (se_call (n := 1) G_sides_of (hr.mono (by decide)) (by rfl) D_sides_of.m D_sides_of.fn.kp D_sides_of.b passA (sa_cons (se_var 0) sa_nil))) (sg_tup rfl (sgs_cons (sg_name 4 sc_planes_of.nd) (sgs_cons (sg_name 5 sc_planes_of.nd) (sgs_cons (sg_name 6 sc_planes_of.nd) (sgs_cons (sg_name 7 sc_planes_of.nd) (sgs_cons (sg_name 8 sc_planes_of.nd) sgs_nil)))))) (sss_cons (ss_asg (se_call (n := 2) G_lowest (hr.mono (by decide)) (by rfl) D_lowest.m D_lowest.fn.kp D_lowest.b passA (sa_cons (se_sub (se_var 5) (se_var 7)) (sa_cons (se_sub (se_var 6) (se_var 4)) sa_nil))) (sg_tup rfl (sgs_cons (sg_name 11 sc_planes_of.nd) (sgs_cons (sg_name 12 sc_planes_of.nd) sgs_nil))))
      (sss_one (ss_asg se_bl (sg_subT (hu_of hr) (se_var 3) (se_key (sa_cons (se_var 11) (sa_cons (se_var 12) (sa_cons (se_add (se_mul (se_var 11) (se_var 4)) (se_mul (se_var 12) (se_var 5))) sa_nil)))))))))) sss_nil)
      (sss_one (ss_ret (se_callTy (cr_listT rfl) (by rfl) z_list (by decide +kernel) (sa_cons (se_var 3) sa_nil))))))))
theorem ok_directions {f_directions : Addr} {fd_directions : FuncData} (D_directions : DefOk K mg "directions" s_directions ["ends", "piece"] f_directions fd_directions)
    {f_planes_of : Addr} {fd_planes_of : FuncData} (D_planes_of : DefOk K mg "planes_of" s_planes_of ["piece"] f_planes_of fd_planes_of)
    (G_planes_of : FnOk P w K mg base CX0 2 f_planes_of fd_planes_of ["piece"] (spM K 1 F_planes_of))
    {f_lowest : Addr} {fd_lowest : FuncData} (D_lowest : DefOk K mg "lowest" s_lowest ["u", "v"] f_lowest fd_lowest)
    (G_lowest : FnOk P w K mg base CX0 1 f_lowest fd_lowest ["u", "v"] (spM K 2 F_lowest)) : FnOk P w K mg base CX0 3 f_directions fd_directions ["ends", "piece"] (spM K 2 F_directions) := by
  exact fn_okF D_directions.fn sc_directions rfl fun cdv A outer s H E hr =>
      (sss_cons (ss_setComp 2 (own := [("u", 8), ("v", 9), ("_", 7)]) rfl sc_directions.nd (si_seq (se_call (n := 1) G_planes_of (hr.mono (by decide)) (by rfl) D_planes_of.m D_planes_of.fn.kp D_planes_of.b passA (sa_cons (se_var 1) sa_nil))) (blkOk_by (own := [("u", 8), ("v", 9), ("_", 7)]) (N := N_directions) (sc := defScope s_directions) (by decide +kernel)) (gt_of (gg_tup (gg_cons (gg_name (by decide)) (gg_cons (gg_name (by decide)) (gg_cons (gg_name (by decide)) gg_nil))))) (fun _ _ _ _ _ => (pg_tup rfl (pgs_cons (pg_name (i := 8) sc_directions.nd rfl (.inl rfl)) (pgs_cons (pg_name (i := 9) sc_directions.nd rfl (.inl rfl)) (pgs_cons (pg_name (i := 7) sc_directions.nd rfl (.inl rfl)) pgs_nil))))) (fun _ _ _ _ _ => sts_nil) (fun _ _ _ _ _ => (se_tup (sa_cons (se_neg (se_var 8)) (sa_cons (se_neg (se_var 9)) sa_nil)))))
      (sss_cons (ss_asg (se_var 0) (sg_tup rfl (sgs_cons (sg_name 3 sc_directions.nd) (sgs_cons (sg_name 4 sc_directions.nd) (sgs_cons (sg_name 5 sc_directions.nd) (sgs_cons (sg_name 6 sc_directions.nd) (sgs_cons (sg_name 7 sc_directions.nd) sgs_nil)))))))
      (sss_cons (ss_if (st_cmp (op_neDD hr.units) (se_tup (sa_cons (se_var 3) (sa_cons (se_var 4) sa_nil))) (se_tup (sa_cons (se_var 5) (sa_cons (se_var 6) sa_nil))) (by first | exact nomark _ | rfl)) (sss_cons (ss_asg (se_call (n := 2) G_lowest (hr.mono (by decide)) (by rfl) D_lowest.m D_lowest.fn.kp D_lowest.b passA (sa_cons (se_sub (se_var 4) (se_var 6)) (sa_cons (se_sub (se_var 5) (se_var 3)) sa_nil))) (sg_tup rfl (sgs_cons (sg_name 8 sc_directions.nd) (sgs_cons (sg_name 9 sc_directions.nd) sgs_nil))))
      (sss_one (ss_expr (se_extend (se_var 2) (sa_cons (se_lstF (sa_cons (se_tup (sa_cons (se_var 8) (sa_cons (se_var 9) sa_nil))) (sa_cons (se_tup (sa_cons (se_neg (se_var 8)) (sa_cons (se_neg (se_var 9)) sa_nil))) sa_nil))) sa_nil))))) sss_nil)
      (sss_one (ss_ret (se_var 2))))))
theorem ok_ratio {f_ratio : Addr} {fd_ratio : FuncData} (D_ratio : DefOk K mg "ratio" s_ratio ["n", "d"] f_ratio fd_ratio)
    (b_gcd : mg "gcd" = some (.builtin "math.gcd")) : FnOk P w K mg base CX0 1 f_ratio fd_ratio ["n", "d"] (spM K 2 F_ratio) := by
  exact fn_okF D_ratio.fn sc_ratio rfl fun cdv A outer s H E hr =>
      (sss_cons (ss_set 2 sc_ratio.nd (se_callBfun cr_gcdD (by rfl) b_gcd (sa_cons (se_var 0) (sa_cons (se_var 1) sa_nil))))
      (sss_cons (ss_if (st_cmp (op_ltD hr.units0) (se_var 1) se_int (by first | exact nomark _ | rfl)) (sss_one (ss_set 2 sc_ratio.nd (se_neg (se_var 2)))) sss_nil)
      (sss_one (ss_ret (se_tup (sa_cons (se_fdiv (se_var 0) (se_var 2)) (sa_cons (se_fdiv (se_var 1) (se_var 2)) sa_nil)))))))
theorem ok_middle {f_middle : Addr} {fd_middle : FuncData} (D_middle : DefOk K mg "middle" s_middle ["a", "b"] f_middle fd_middle)
    {f_ratio : Addr} {fd_ratio : FuncData} (D_ratio : DefOk K mg "ratio" s_ratio ["n", "d"] f_ratio fd_ratio)
    (G_ratio : FnOk P w K mg base CX0 1 f_ratio fd_ratio ["n", "d"] (spM K 2 F_ratio)) : FnOk P w K mg base CX0 2 f_middle fd_middle ["a", "b"] (spM K 2 F_middle) := by
  exact fn_okF D_middle.fn sc_middle rfl fun cdv A outer s H E hr =>
      (sss_one (ss_ret (se_call (n := 2) G_ratio (hr.mono (by decide)) (by rfl) D_ratio.m D_ratio.fn.kp D_ratio.b passA (sa_cons (se_add (se_mul (se_ix (hu_of hr) (se_var 0) se_int (fun _ _ => rfl)) (se_ix (hu_of hr) (se_var 1) se_int (fun _ _ => rfl))) (se_mul (se_ix (hu_of hr) (se_var 1) se_int (fun _ _ => rfl)) (se_ix (hu_of hr) (se_var 0) se_int (fun _ _ => rfl)))) (sa_cons (se_mul (se_mul se_int (se_ix (hu_of hr) (se_var 0) se_int (fun _ _ => rfl))) (se_ix (hu_of hr) (se_var 1) se_int (fun _ _ => rfl))) sa_nil)))))
theorem ok_line_between {f_line_between : Addr} {fd_line_between : FuncData} (D_line_between : DefOk K mg "line_between" s_line_between ["a", "b", "piece"] f_line_between fd_line_between)
    {f_segment : Addr} {fd_segment : FuncData} (D_segment : DefOk K mg "segment" s_segment ["a", "b"] f_segment fd_segment)
    (G_segment : FnOk P w K mg base CX0 1 f_segment fd_segment ["a", "b"] (spM K 2 F_segment))
    {f_directions : Addr} {fd_directions : FuncData} (D_directions : DefOk K mg "directions" s_directions ["ends", "piece"] f_directions fd_directions)
    (G_directions : FnOk P w K mg base CX0 3 f_directions fd_directions ["ends", "piece"] (spM K 2 F_directions))
    {f_ratio : Addr} {fd_ratio : FuncData} (D_ratio : DefOk K mg "ratio" s_ratio ["n", "d"] f_ratio fd_ratio)
    (G_ratio : FnOk P w K mg base CX0 1 f_ratio fd_ratio ["n", "d"] (spM K 2 F_ratio))
    {f_middle : Addr} {fd_middle : FuncData} (D_middle : DefOk K mg "middle" s_middle ["a", "b"] f_middle fd_middle)
    (G_middle : FnOk P w K mg base CX0 2 f_middle fd_middle ["a", "b"] (spM K 2 F_middle))
    (z_min : mg "min" = none)
    (z_max : mg "max" = none) : FnOk P w K mg base CX0 4 f_line_between fd_line_between ["a", "b", "piece"] (spM K 3 F_line_between) := by
  exact fn_okF D_line_between.fn sc_line_between rfl fun cdv A outer s H E hr =>
      (sss_cons (ss_set 3 sc_line_between.nd (se_call (n := 2) G_segment (hr.mono (by decide)) (by rfl) D_segment.m D_segment.fn.kp D_segment.b passA (sa_cons (se_var 0) (sa_cons (se_var 1) sa_nil))))
      (sss_cons (ss_asg (se_var 3) (sg_tup rfl (sgs_cons (sg_name 4 sc_line_between.nd) (sgs_cons (sg_name 5 sc_line_between.nd) (sgs_cons (sg_name 6 sc_line_between.nd) (sgs_cons (sg_name 7 sc_line_between.nd) (sgs_cons (sg_name 8 sc_line_between.nd) sgs_nil)))))))
      (sss_cons (ss_for PassesOwn.never rfl (si_seq (se_call (n := 2) G_directions (hr.mono (by decide)) (by rfl) D_directions.m D_directions.fn.kp D_directions.b passA (sa_cons (se_var 3) (sa_cons (se_var 2) sa_nil)))) (sg_tup rfl (sgs_cons (sg_name 9 sc_line_between.nd) (sgs_cons (sg_name 10 sc_line_between.nd) sgs_nil))) (sss_cons (ss_set 11 sc_line_between.nd (se_callB (cr_min2 rfl) (by rfl) z_min (by decide +kernel) (sa_cons (se_add (se_mul (se_var 9) (se_var 4)) (se_mul (se_var 10) (se_var 5))) (sa_cons (se_add (se_mul (se_var 9) (se_var 6)) (se_mul (se_var 10) (se_var 7))) sa_nil))))
      (sss_cons (ss_set 12 sc_line_between.nd (se_callB (cr_maxLD rfl) (by rfl) z_max (by decide +kernel) (sa_cons (se_compF (own := [("x", 13), ("y", 14)]) rfl sc_line_between.nd (si_seq (se_var 2)) (blkOk_by (own := [("x", 13), ("y", 14)]) (N := N_line_between) (sc := defScope s_line_between) (by decide +kernel)) (gt_of (gg_tup (gg_cons (gg_name (by decide)) (gg_cons (gg_name (by decide)) gg_nil)))) (fun _ _ _ _ _ => (pg_tup rfl (pgs_cons (pg_name (i := 13) sc_line_between.nd rfl (.inl rfl)) (pgs_cons (pg_name (i := 14) sc_line_between.nd rfl (.inl rfl)) pgs_nil)))) (fun _ _ _ _ _ => sts_nil) (fun _ _ _ _ _ => (se_add (se_mul (se_var 9) (se_var 13)) (se_mul (se_var 10) (se_var 14))))) sa_nil)))
      (sss_one (ss_if (st_cmp (op_ltD hr.units0) (se_mul (se_var 12) (se_var 8)) (se_var 11) (by first | exact nomark _ | rfl)) (sss_one (ss_ret (se_tup (sa_cons (se_tup (sa_cons (se_var 9) (sa_cons (se_var 10) sa_nil))) (sa_cons (se_call (n := 2) G_middle (hr.mono (by decide)) (by rfl) D_middle.m D_middle.fn.kp D_middle.b passA (sa_cons (se_tup (sa_cons (se_var 12) (sa_cons se_int sa_nil))) (sa_cons (se_call (n := 2) G_ratio (hr.mono (by decide)) (by rfl) D_ratio.m D_ratio.fn.kp D_ratio.b passA (sa_cons (se_var 11) (sa_cons (se_var 8) sa_nil))) sa_nil))) sa_nil))))) sss_nil)))))
      (sss_one (ss_ret se_non)))))
theorem ok_part_in {f_part_in : Addr} {fd_part_in : FuncData} (D_part_in : DefOk K mg "part_in" s_part_in ["ends", "fence", "depth"] f_part_in fd_part_in) : FnOk P w K mg base CX0 1 f_part_in fd_part_in ["ends", "fence", "depth"] (spM K 3 F_part_in) := by
  exact fn_okF D_part_in.fn sc_part_in rfl fun cdv A outer s H E hr =>
      (sss_cons (ss_asg (se_var 0) (sg_tup rfl (sgs_cons (sg_name 3 sc_part_in.nd) (sgs_cons (sg_name 4 sc_part_in.nd) (sgs_cons (sg_name 5 sc_part_in.nd) (sgs_cons (sg_name 6 sc_part_in.nd) (sgs_cons (sg_name 7 sc_part_in.nd) sgs_nil)))))))
      (sss_cons (ss_asg (se_tup (sa_cons se_int (sa_cons se_int sa_nil))) (sg_tup rfl (sgs_cons (sg_name 8 sc_part_in.nd) (sgs_cons (sg_name 9 sc_part_in.nd) sgs_nil))))
      (sss_cons (ss_asg (se_tup (sa_cons se_int (sa_cons se_int sa_nil))) (sg_tup rfl (sgs_cons (sg_name 10 sc_part_in.nd) (sgs_cons (sg_name 11 sc_part_in.nd) sgs_nil))))
      (sss_cons (ss_for PassesOwn.never rfl (si_seq (se_var 1)) (sg_tup rfl (sgs_cons (sg_name 12 sc_part_in.nd) (sgs_cons (sg_name 13 sc_part_in.nd) (sgs_cons (sg_name 14 sc_part_in.nd) sgs_nil)))) (sss_cons (ss_set 15 sc_part_in.nd (se_sub (se_add (se_mul (se_var 12) (se_var 3)) (se_mul (se_var 13) (se_var 4))) (se_mul (se_var 14) (se_var 7))))
      (sss_cons (ss_set 16 sc_part_in.nd (se_sub (se_add (se_mul (se_var 12) (se_var 5)) (se_mul (se_var 13) (se_var 6))) (se_mul (se_var 14) (se_var 7))))
      (sss_one (ss_if (st_cmp (op_ltD hr.units0) (se_var 15) (se_var 2) (by first | exact nomark _ | rfl)) (sss_cons (ss_if (st_cmp (op_ltD hr.units0) (se_var 16) (se_var 2) (by first | exact nomark _ | rfl)) (sss_one (ss_ret se_non)) sss_nil)
      (sss_one (ss_if (st_cmp op_gtD (se_mul (se_neg (se_var 15)) (se_var 9)) (se_mul (se_var 8) (se_sub (se_var 16) (se_var 15))) (by first | exact nomark _ | rfl)) (sss_one (ss_par 8 9 rfl sc_part_in.nd (se_neg (se_var 15)) (se_sub (se_var 16) (se_var 15)))) sss_nil))) (sss_one (ss_if (st_w (sw_and (st_cmp (op_ltD hr.units0) (se_var 16) (se_var 2) (by first | exact nomark _ | rfl)) (sw_and1 (st_cmp (op_ltD hr.units0) (se_mul (se_var 15) (se_var 11)) (se_mul (se_var 10) (se_sub (se_var 15) (se_var 16))) (by first | exact nomark _ | rfl))))) (sss_one (ss_par 10 11 rfl sc_part_in.nd (se_var 15) (se_sub (se_var 15) (se_var 16)))) sss_nil)))))))
      (sss_cons (ss_if (st_cmp op_gtD (se_add (se_mul (se_var 8) (se_var 11)) (se_var 2)) (se_mul (se_var 10) (se_var 9)) (by first | exact nomark _ | rfl)) (sss_one (ss_ret se_non)) sss_nil)
      (sss_one (ss_ret (se_tup (sa_cons (se_tup (sa_cons (se_var 8) (sa_cons (se_var 9) sa_nil))) (sa_cons (se_tup (sa_cons (se_var 10) (sa_cons (se_var 11) sa_nil))) sa_nil))))))))))
theorem ok_point_at {f_point_at : Addr} {fd_point_at : FuncData} (D_point_at : DefOk K mg "point_at" s_point_at ["ends", "share"] f_point_at fd_point_at)
    {f_ratio : Addr} {fd_ratio : FuncData} (D_ratio : DefOk K mg "ratio" s_ratio ["n", "d"] f_ratio fd_ratio)
    (G_ratio : FnOk P w K mg base CX0 1 f_ratio fd_ratio ["n", "d"] (spM K 2 F_ratio)) : FnOk P w K mg base CX0 2 f_point_at fd_point_at ["ends", "share"] (spM K 2 F_point_at) := by
  exact fn_okF D_point_at.fn sc_point_at rfl fun cdv A outer s H E hr =>
      (sss_cons (ss_asg (se_var 0) (sg_tup rfl (sgs_cons (sg_name 2 sc_point_at.nd) (sgs_cons (sg_name 3 sc_point_at.nd) (sgs_cons (sg_name 4 sc_point_at.nd) (sgs_cons (sg_name 5 sc_point_at.nd) (sgs_cons (sg_name 6 sc_point_at.nd) sgs_nil)))))))
      (sss_cons (ss_asg (se_var 1) (sg_tup rfl (sgs_cons (sg_name 7 sc_point_at.nd) (sgs_cons (sg_name 8 sc_point_at.nd) sgs_nil))))
      (sss_one (ss_ret (se_tup (sa_cons (se_call (n := 2) G_ratio (hr.mono (by decide)) (by rfl) D_ratio.m D_ratio.fn.kp D_ratio.b passA (sa_cons (se_add (se_mul (se_var 2) (se_sub (se_var 8) (se_var 7))) (se_mul (se_var 4) (se_var 7))) (sa_cons (se_mul (se_var 6) (se_var 8)) sa_nil))) (sa_cons (se_call (n := 2) G_ratio (hr.mono (by decide)) (by rfl) D_ratio.m D_ratio.fn.kp D_ratio.b passA (sa_cons (se_add (se_mul (se_var 3) (se_sub (se_var 8) (se_var 7))) (se_mul (se_var 5) (se_var 7))) (sa_cons (se_mul (se_var 6) (se_var 8)) sa_nil))) sa_nil)))))))
theorem ok_common_point {f_common_point : Addr} {fd_common_point : FuncData} (D_common_point : DefOk K mg "common_point" s_common_point ["a", "b", "piece"] f_common_point fd_common_point)
    {f_segment : Addr} {fd_segment : FuncData} (D_segment : DefOk K mg "segment" s_segment ["a", "b"] f_segment fd_segment)
    (G_segment : FnOk P w K mg base CX0 1 f_segment fd_segment ["a", "b"] (spM K 2 F_segment))
    {f_planes_of : Addr} {fd_planes_of : FuncData} (D_planes_of : DefOk K mg "planes_of" s_planes_of ["piece"] f_planes_of fd_planes_of)
    (G_planes_of : FnOk P w K mg base CX0 2 f_planes_of fd_planes_of ["piece"] (spM K 1 F_planes_of))
    {f_part_in : Addr} {fd_part_in : FuncData} (D_part_in : DefOk K mg "part_in" s_part_in ["ends", "fence", "depth"] f_part_in fd_part_in)
    (G_part_in : FnOk P w K mg base CX0 1 f_part_in fd_part_in ["ends", "fence", "depth"] (spM K 3 F_part_in))
    {f_point_at : Addr} {fd_point_at : FuncData} (D_point_at : DefOk K mg "point_at" s_point_at ["ends", "share"] f_point_at fd_point_at)
    (G_point_at : FnOk P w K mg base CX0 2 f_point_at fd_point_at ["ends", "share"] (spM K 2 F_point_at))
    (k_WITHIN : ∃ t, mg "WITHIN" = some (.int (0) t)) : FnOk P w K mg base CX0 3 f_common_point fd_common_point ["a", "b", "piece"] (spM K 3 F_common_point) := by
  obtain ⟨_, c_WITHIN⟩ := k_WITHIN
  exact fn_okF D_common_point.fn sc_common_point rfl fun cdv A outer s H E hr =>
      (sss_cons (ss_set 3 sc_common_point.nd (se_call (n := 2) G_segment (hr.mono (by decide)) (by rfl) D_segment.m D_segment.fn.kp D_segment.b passA (sa_cons (se_var 0) (sa_cons (se_var 1) sa_nil))))
      (sss_cons (ss_set 4 sc_common_point.nd (se_call (n := 3) G_part_in (hr.mono (by decide)) (by rfl) D_part_in.m D_part_in.fn.kp D_part_in.b passA (sa_cons (se_var 3) (sa_cons (se_call (n := 1) G_planes_of (hr.mono (by decide)) (by rfl) D_planes_of.m D_planes_of.fn.kp D_planes_of.b passA (sa_cons (se_var 2) sa_nil)) (sa_cons (se_glob (v := .int 0) (by rfl) c_WITHIN ⟨_, rfl⟩ (fun _ _ => .int _)) sa_nil)))))
      (sss_cons (ss_if (st_isN (se_var 4)) (sss_one (ss_ret se_non)) sss_nil)
      (sss_one (ss_ret (se_call (n := 2) G_point_at (hr.mono (by decide)) (by rfl) D_point_at.m D_point_at.fn.kp D_point_at.b passA (sa_cons (se_var 3) (sa_cons (se_ix (hu_of hr) (se_var 4) se_int (fun _ _ => rfl)) sa_nil))))))))
theorem ok_are_apart {f_are_apart : Addr} {fd_are_apart : FuncData} (D_are_apart : DefOk K mg "are_apart" s_are_apart ["a", "b", "piece"] f_are_apart fd_are_apart)
    {f_planes_of : Addr} {fd_planes_of : FuncData} (D_planes_of : DefOk K mg "planes_of" s_planes_of ["piece"] f_planes_of fd_planes_of)
    (G_planes_of : FnOk P w K mg base CX0 2 f_planes_of fd_planes_of ["piece"] (spM K 1 F_planes_of))
    {f_segment : Addr} {fd_segment : FuncData} (D_segment : DefOk K mg "segment" s_segment ["a", "b"] f_segment fd_segment)
    (G_segment : FnOk P w K mg base CX0 1 f_segment fd_segment ["a", "b"] (spM K 2 F_segment))
    {f_part_in : Addr} {fd_part_in : FuncData} (D_part_in : DefOk K mg "part_in" s_part_in ["ends", "fence", "depth"] f_part_in fd_part_in)
    (G_part_in : FnOk P w K mg base CX0 1 f_part_in fd_part_in ["ends", "fence", "depth"] (spM K 3 F_part_in))
    (k_WITHIN : ∃ t, mg "WITHIN" = some (.int (0) t)) : FnOk P w K mg base CX0 3 f_are_apart fd_are_apart ["a", "b", "piece"] (spM K 3 F_are_apart) := by
  obtain ⟨_, c_WITHIN⟩ := k_WITHIN
  exact fn_okF D_are_apart.fn sc_are_apart rfl fun cdv A outer s H E hr =>
      (sss_one (ss_ret (se_isN (se_call (n := 3) G_part_in (hr.mono (by decide)) (by rfl) D_part_in.m D_part_in.fn.kp D_part_in.b passA (sa_cons (se_call (n := 2) G_segment (hr.mono (by decide)) (by rfl) D_segment.m D_segment.fn.kp D_segment.b passA (sa_cons (se_var 0) (sa_cons (se_var 1) sa_nil))) (sa_cons (se_call (n := 1) G_planes_of (hr.mono (by decide)) (by rfl) D_planes_of.m D_planes_of.fn.kp D_planes_of.b passA (sa_cons (se_var 2) sa_nil)) (sa_cons (se_glob (v := .int 0) (by rfl) c_WITHIN ⟨_, rfl⟩ (fun _ _ => .int _)) sa_nil)))))))
theorem ok__law_other {f__law_other : Addr} {fd__law_other : FuncData} (D__law_other : DefOk K mg "_law_other" s__law_other ["found", "due"] f__law_other fd__law_other)
    (z_isinstance : mg "isinstance" = none)
    (z_bool : mg "bool" = none) : FnOk P w K mg base CX0 1 f__law_other fd__law_other ["found", "due"] (spM K 2 F__law_other) := by
  exact fn_okF D__law_other.fn sc__law_other rfl fun cdv A outer s H E hr =>
      (sss_one (ss_ret (se_or (se_not (se_isi (se_var 0) (by rfl) z_isinstance (by rfl) z_bool (by decide +kernel))) (se_one (se_cmp (op_neDD hr.units) (se_var 0) (se_var 1) (by first | exact nomark _ | rfl))))))
theorem ok__law_product {f__law_product : Addr} {fd__law_product : FuncData} (D__law_product : DefOk K mg "_law_product" s__law_product ["u", "p"] f__law_product fd__law_product) : FnOk P w K mg base CX0 1 f__law_product fd__law_product ["u", "p"] (spM K 2 F__law_product) := by
  exact fn_okF D__law_product.fn sc__law_product rfl fun cdv A outer s H E hr =>
      (sss_one (ss_ret (se_tup (sa_cons (se_add (se_mul (se_ix (hu_of hr) (se_var 0) se_int (fun _ _ => rfl)) (se_ix (hu_of hr) (se_var 1) se_int (fun _ _ => rfl))) (se_mul (se_ix (hu_of hr) (se_var 0) se_int (fun _ _ => rfl)) (se_ix (hu_of hr) (se_var 1) se_int (fun _ _ => rfl)))) (sa_cons (se_ix (hu_of hr) (se_var 1) se_int (fun _ _ => rfl)) sa_nil)))))
theorem ok__law_less {f__law_less : Addr} {fd__law_less : FuncData} (D__law_less : DefOk K mg "_law_less" s__law_less ["a", "b"] f__law_less fd__law_less) : FnOk P w K mg base CX0 1 f__law_less fd__law_less ["a", "b"] (spM K 2 F__law_less) := by
  exact fn_okF D__law_less.fn sc__law_less rfl fun cdv A outer s H E hr =>
      (sss_one (ss_ret (se_cmp (op_ltD hr.units0) (se_mul (se_ix (hu_of hr) (se_var 0) se_int (fun _ _ => rfl)) (se_ix (hu_of hr) (se_var 1) se_int (fun _ _ => rfl))) (se_mul (se_ix (hu_of hr) (se_var 1) se_int (fun _ _ => rfl)) (se_ix (hu_of hr) (se_var 0) se_int (fun _ _ => rfl))) (by first | exact nomark _ | rfl))))
theorem ok__law_lies_between {f__law_lies_between : Addr} {fd__law_lies_between : FuncData} (D__law_lies_between : DefOk K mg "_law_lies_between" s__law_lies_between ["u", "c", "a", "b", "piece"] f__law_lies_between fd__law_lies_between)
    {f__law_product : Addr} {fd__law_product : FuncData} (D__law_product : DefOk K mg "_law_product" s__law_product ["u", "p"] f__law_product fd__law_product)
    (G__law_product : FnOk P w K mg base CX0 1 f__law_product fd__law_product ["u", "p"] (spM K 2 F__law_product))
    {f__law_less : Addr} {fd__law_less : FuncData} (D__law_less : DefOk K mg "_law_less" s__law_less ["a", "b"] f__law_less fd__law_less)
    (G__law_less : FnOk P w K mg base CX0 1 f__law_less fd__law_less ["a", "b"] (spM K 2 F__law_less))
    (z_all : mg "all" = none) : FnOk P w K mg base CX0 2 f__law_lies_between fd__law_lies_between ["u", "c", "a", "b", "piece"] (spM K 5 F__law_lies_between) := by
  exact fn_okF D__law_lies_between.fn sc__law_lies_between rfl fun cdv A outer s H E hr =>
      (sss_cons (ss_if (st_w (sw_or (st_cmp (op_eqDD hr.units) (se_var 0) (se_tup (sa_cons se_int (sa_cons se_int sa_nil))) (by first | exact nomark _ | rfl)) (sw_or (st_not (st_truth (se_call (n := 2) G__law_less (hr.mono (by decide)) (by rfl) D__law_less.m D__law_less.fn.kp D__law_less.b passA (sa_cons (se_var 1) (sa_cons (se_call (n := 2) G__law_product (hr.mono (by decide)) (by rfl) D__law_product.m D__law_product.fn.kp D__law_product.b passA (sa_cons (se_var 0) (sa_cons (se_var 2) sa_nil))) sa_nil))))) (sw_or1 (st_not (st_truth (se_call (n := 2) G__law_less (hr.mono (by decide)) (by rfl) D__law_less.m D__law_less.fn.kp D__law_less.b passA (sa_cons (se_var 1) (sa_cons (se_call (n := 2) G__law_product (hr.mono (by decide)) (by rfl) D__law_product.m D__law_product.fn.kp D__law_product.b passA (sa_cons (se_var 0) (sa_cons (se_var 3) sa_nil))) sa_nil))))))))) (sss_one (ss_ret se_bl)) sss_nil)
      (sss_one (ss_ret (se_callB (cr_allD rfl) (by rfl) z_all (by decide +kernel) (sa_cons (se_compF (own := [("corner", 5)]) rfl sc__law_lies_between.nd (si_seq (se_var 4)) (blkOk_by (own := [("corner", 5)]) (N := N__law_lies_between) (sc := defScope s__law_lies_between) (by decide +kernel)) (gt_name (by decide)) (fun _ _ _ _ _ => pg_name (i := 5) sc__law_lies_between.nd rfl (.inl rfl)) (fun _ _ _ _ _ => sts_nil) (fun _ _ _ _ _ => (se_call (n := 2) G__law_less (hr.mono (by decide)) (by rfl) D__law_less.m D__law_less.fn.kp D__law_less.b passA (sa_cons (se_call (n := 2) G__law_product (hr.mono (by decide)) (by rfl) D__law_product.m D__law_product.fn.kp D__law_product.b passA (sa_cons (se_var 0) (sa_cons (se_tup (sa_cons (se_ix (hu_of hr) (se_var 5) se_int (fun _ _ => rfl)) (sa_cons (se_ix (hu_of hr) (se_var 5) se_int (fun _ _ => rfl)) (sa_cons se_int sa_nil)))) sa_nil))) (sa_cons (se_var 1) sa_nil))))) sa_nil)))))
theorem ok_is_less {f_is_less : Addr} {fd_is_less : FuncData} (D_is_less : DefOk K mg "is_less" s_is_less ["a", "b"] f_is_less fd_is_less) : FnOk P w K mg base CX0 1 f_is_less fd_is_less ["a", "b"] (spM K 2 F_is_less) := by
  exact fn_okF D_is_less.fn sc_is_less rfl fun cdv A outer s H E hr =>
      (sss_one (ss_ret (se_cmp (op_ltD hr.units0) (se_mul (se_ix (hu_of hr) (se_var 0) se_int (fun _ _ => rfl)) (se_ix (hu_of hr) (se_var 1) se_int (fun _ _ => rfl))) (se_mul (se_ix (hu_of hr) (se_var 1) se_int (fun _ _ => rfl)) (se_ix (hu_of hr) (se_var 0) se_int (fun _ _ => rfl))) (by first | exact nomark _ | rfl))))
theorem ok_is_line_between {f_is_line_between : Addr} {fd_is_line_between : FuncData} (D_is_line_between : DefOk K mg "is_line_between" s_is_line_between ["line", "a", "b", "piece"] f_is_line_between fd_is_line_between)
    {f_is_less : Addr} {fd_is_less : FuncData} (D_is_less : DefOk K mg "is_less" s_is_less ["a", "b"] f_is_less fd_is_less)
    (G_is_less : FnOk P w K mg base CX0 1 f_is_less fd_is_less ["a", "b"] (spM K 2 F_is_less))
    (z_all : mg "all" = none) : FnOk P w K mg base CX0 2 f_is_line_between fd_is_line_between ["line", "a", "b", "piece"] (spM K 4 F_is_line_between) := by
  exact fn_okF D_is_line_between.fn sc_is_line_between rfl fun cdv A outer s H E hr =>
      (sss_cons (ss_asg (se_var 0) (sg_tup rfl (sgs_cons (sg_tup rfl (sgs_cons (sg_name 5 sc_is_line_between.nd) (sgs_cons (sg_name 6 sc_is_line_between.nd) sgs_nil))) (sgs_cons (sg_name 4 sc_is_line_between.nd) sgs_nil))))
      (sss_cons (ss_if (st_cmp (op_eqDD hr.units) (se_tup (sa_cons (se_var 5) (sa_cons (se_var 6) sa_nil))) (se_tup (sa_cons se_int (sa_cons se_int sa_nil))) (by first | exact nomark _ | rfl)) (sss_one (ss_ret se_bl)) sss_nil)
      (sss_cons (ss_for PassesOwn.never rfl (si_seq (se_tup (sa_cons (se_var 1) (sa_cons (se_var 2) sa_nil)))) (sg_tup rfl (sgs_cons (sg_tup rfl (sgs_cons (sg_name 7 sc_is_line_between.nd) (sgs_cons (sg_name 8 sc_is_line_between.nd) sgs_nil))) (sgs_cons (sg_tup rfl (sgs_cons (sg_name 9 sc_is_line_between.nd) (sgs_cons (sg_name 10 sc_is_line_between.nd) sgs_nil))) sgs_nil))) (sss_one (ss_if (st_not (st_truth (se_call (n := 2) G_is_less (hr.mono (by decide)) (by rfl) D_is_less.m D_is_less.fn.kp D_is_less.b passA (sa_cons (se_var 4) (sa_cons (se_tup (sa_cons (se_add (se_mul (se_mul (se_var 5) (se_var 7)) (se_var 10)) (se_mul (se_mul (se_var 6) (se_var 9)) (se_var 8))) (sa_cons (se_mul (se_var 8) (se_var 10)) sa_nil))) sa_nil))))) (sss_one (ss_ret se_bl)) sss_nil)))
      (sss_one (ss_ret (se_callB (cr_allD rfl) (by rfl) z_all (by decide +kernel) (sa_cons (se_compF (own := [("x", 11), ("y", 12)]) rfl sc_is_line_between.nd (si_seq (se_var 3)) (blkOk_by (own := [("x", 11), ("y", 12)]) (N := N_is_line_between) (sc := defScope s_is_line_between) (by decide +kernel)) (gt_of (gg_tup (gg_cons (gg_name (by decide)) (gg_cons (gg_name (by decide)) gg_nil)))) (fun _ _ _ _ _ => (pg_tup rfl (pgs_cons (pg_name (i := 11) sc_is_line_between.nd rfl (.inl rfl)) (pgs_cons (pg_name (i := 12) sc_is_line_between.nd rfl (.inl rfl)) pgs_nil)))) (fun _ _ _ _ _ => sts_nil) (fun _ _ _ _ _ => (se_call (n := 2) G_is_less (hr.mono (by decide)) (by rfl) D_is_less.m D_is_less.fn.kp D_is_less.b passA (sa_cons (se_tup (sa_cons (se_add (se_mul (se_var 5) (se_var 11)) (se_mul (se_var 6) (se_var 12))) (sa_cons se_int sa_nil))) (sa_cons (se_var 4) sa_nil))))) sa_nil)))))))
theorem ok_law {f_law : Addr} {fd_law : FuncData} (D_law : DefOk K mg "law" s_law ["script"] f_law fd_law)
    {f__law_pot : Addr} {fd__law_pot : FuncData} (D__law_pot : DefOk K mg "_law_pot" s__law_pot ["script"] f__law_pot fd__law_pot)
    (G__law_pot : FnOk P w K mg base CX0 1 f__law_pot fd__law_pot ["script"] (spM K 1 F__law_pot))
    {f__law_next : Addr} {fd__law_next : FuncData} (D__law_next : DefOk K mg "_law_next" s__law_next ["pot", "limit"] f__law_next fd__law_next)
    (G__law_next : FnOk P w K mg base CX0 1 f__law_next fd__law_next ["pot", "limit"] (spM K 2 F__law_next))
    {f__law_piece : Addr} {fd__law_piece : FuncData} (D__law_piece : DefOk K mg "_law_piece" s__law_piece ["pot", "at", "size"] f__law_piece fd__law_piece)
    (G__law_piece : FnOk P w K mg base CX0 3 f__law_piece fd__law_piece ["pot", "at", "size"] (spM K 3 F__law_piece))
    {f__law_place : Addr} {fd__law_place : FuncData} (D__law_place : DefOk K mg "_law_place" s__law_place ["pot", "width", "height"] f__law_place fd__law_place)
    (G__law_place : FnOk P w K mg base CX0 2 f__law_place fd__law_place ["pot", "width", "height"] (spM K 3 F__law_place))
    {f__law_scale : Addr} {fd__law_scale : FuncData} (D__law_scale : DefOk K mg "_law_scale" s__law_scale ["p"] f__law_scale fd__law_scale)
    (G__law_scale : FnOk P w K mg base CX0 1 f__law_scale fd__law_scale ["p"] (spM K 1 F__law_scale))
    {f__law_corners : Addr} {fd__law_corners : FuncData} (D__law_corners : DefOk K mg "_law_corners" s__law_corners ["piece"] f__law_corners fd__law_corners)
    (G__law_corners : FnOk P w K mg base CX0 1 f__law_corners fd__law_corners ["piece"] (spM K 1 F__law_corners))
    {f__law_apart : Addr} {fd__law_apart : FuncData} (D__law_apart : DefOk K mg "_law_apart" s__law_apart ["a", "b", "corners"] f__law_apart fd__law_apart)
    (G__law_apart : FnOk P w K mg base CX0 4 f__law_apart fd__law_apart ["a", "b", "corners"] (spM K 3 F__law_apart))
    {f_line_between : Addr} {fd_line_between : FuncData} (D_line_between : DefOk K mg "line_between" s_line_between ["a", "b", "piece"] f_line_between fd_line_between)
    (G_line_between : FnOk P w K mg base CX0 4 f_line_between fd_line_between ["a", "b", "piece"] (spM K 3 F_line_between))
    {f_common_point : Addr} {fd_common_point : FuncData} (D_common_point : DefOk K mg "common_point" s_common_point ["a", "b", "piece"] f_common_point fd_common_point)
    (G_common_point : FnOk P w K mg base CX0 3 f_common_point fd_common_point ["a", "b", "piece"] (spM K 3 F_common_point))
    {f_are_apart : Addr} {fd_are_apart : FuncData} (D_are_apart : DefOk K mg "are_apart" s_are_apart ["a", "b", "piece"] f_are_apart fd_are_apart)
    (G_are_apart : FnOk P w K mg base CX0 3 f_are_apart fd_are_apart ["a", "b", "piece"] (spM K 3 F_are_apart))
    {f__law_other : Addr} {fd__law_other : FuncData} (D__law_other : DefOk K mg "_law_other" s__law_other ["found", "due"] f__law_other fd__law_other)
    (G__law_other : FnOk P w K mg base CX0 1 f__law_other fd__law_other ["found", "due"] (spM K 2 F__law_other))
    {f__law_lies_between : Addr} {fd__law_lies_between : FuncData} (D__law_lies_between : DefOk K mg "_law_lies_between" s__law_lies_between ["u", "c", "a", "b", "piece"] f__law_lies_between fd__law_lies_between)
    (G__law_lies_between : FnOk P w K mg base CX0 2 f__law_lies_between fd__law_lies_between ["u", "c", "a", "b", "piece"] (spM K 5 F__law_lies_between))
    {f_is_line_between : Addr} {fd_is_line_between : FuncData} (D_is_line_between : DefOk K mg "is_line_between" s_is_line_between ["line", "a", "b", "piece"] f_is_line_between fd_is_line_between)
    (G_is_line_between : FnOk P w K mg base CX0 2 f_is_line_between fd_is_line_between ["line", "a", "b", "piece"] (spM K 4 F_is_line_between))
    {f__law_in : Addr} {fd__law_in : FuncData} (D__law_in : DefOk K mg "_law_in" s__law_in ["p", "corners"] f__law_in fd__law_in)
    (G__law_in : FnOk P w K mg base CX0 3 f__law_in fd__law_in ["p", "corners"] (spM K 2 F__law_in))
    {f__law_on : Addr} {fd__law_on : FuncData} (D__law_on : DefOk K mg "_law_on" s__law_on ["p", "a", "b"] f__law_on fd__law_on)
    (G__law_on : FnOk P w K mg base CX0 2 f__law_on fd__law_on ["p", "a", "b"] (spM K 3 F__law_on))
    {f__law_ratio : Addr} {fd__law_ratio : FuncData} (D__law_ratio : DefOk K mg "_law_ratio" s__law_ratio ["n", "d"] f__law_ratio fd__law_ratio)
    (G__law_ratio : FnOk P w K mg base CX0 1 f__law_ratio fd__law_ratio ["n", "d"] (spM K 2 F__law_ratio))
    (z_range : mg "range" = none)
    (z_int : mg "int" = none) : FnOk P w K mg base CX0 5 f_law fd_law ["script"] (spM K 1 F_law) := by
  exact fn_okF D_law.fn sc_law rfl fun cdv A outer s H E hr =>
      (sss_cons (ss_set 1 sc_law.nd (se_call (n := 1) G__law_pot (hr.mono (by decide)) (by rfl) D__law_pot.m D__law_pot.fn.kp D__law_pot.b passA (sa_cons (se_var 0) sa_nil)))
      (sss_cons (ss_for PassesOwn.never rfl (si_range1 (by rfl) z_range (sa_cons se_int sa_nil)) (sg_name 2 sc_law.nd) (sss_cons (ss_set 3 sc_law.nd (se_call (n := 3) G__law_piece (hr.mono (by decide)) (by rfl) D__law_piece.m D__law_piece.fn.kp D__law_piece.b passA (sa_cons (se_var 1) (sa_cons (se_tup (sa_cons (se_call (n := 2) G__law_next (hr.mono (by decide)) (by rfl) D__law_next.m D__law_next.fn.kp D__law_next.b passA (sa_cons (se_var 1) (sa_cons se_int sa_nil))) (sa_cons se_int sa_nil))) (sa_cons (se_ix (hu_of hr) (se_lstF (sa_cons se_int (sa_cons se_int sa_nil))) (se_call (n := 2) G__law_next (hr.mono (by decide)) (by rfl) D__law_next.m D__law_next.fn.kp D__law_next.b passA (sa_cons (se_var 1) (sa_cons se_int sa_nil))) (fun _ _ => rfl)) sa_nil)))))
      (sss_cons (ss_set 4 sc_law.nd (se_call (n := 3) G__law_place (hr.mono (by decide)) (by rfl) D__law_place.m D__law_place.fn.kp D__law_place.b passA (sa_cons (se_var 1) (sa_cons se_int (sa_cons se_int sa_nil)))))
      (sss_cons (ss_set 5 sc_law.nd (se_ix (hu_of hr) (se_lstF (sa_cons (se_var 4) (sa_cons (se_call (n := 3) G__law_place (hr.mono (by decide)) (by rfl) D__law_place.m D__law_place.fn.kp D__law_place.b passA (sa_cons (se_var 1) (sa_cons se_int (sa_cons se_int sa_nil)))) sa_nil))) (se_callTy cr_int (by rfl) z_int (by decide +kernel) (sa_cons (se_cmp op_gtD (se_call (n := 2) G__law_next (hr.mono (by decide)) (by rfl) D__law_next.m D__law_next.fn.kp D__law_next.b passA (sa_cons (se_var 1) (sa_cons se_int sa_nil))) se_int (by first | exact nomark _ | rfl)) sa_nil)) (fun _ _ => rfl)))
      (sss_cons (ss_set 6 sc_law.nd (se_call (n := 1) G__law_scale (hr.mono (by decide)) (by rfl) D__law_scale.m D__law_scale.fn.kp D__law_scale.b passA (sa_cons (se_var 4) sa_nil)))
      (sss_cons (ss_set 7 sc_law.nd (se_call (n := 1) G__law_scale (hr.mono (by decide)) (by rfl) D__law_scale.m D__law_scale.fn.kp D__law_scale.b passA (sa_cons (se_var 5) sa_nil)))
      (sss_cons (ss_set 8 sc_law.nd (se_call (n := 3) G__law_apart (hr.mono (by decide)) (by rfl) D__law_apart.m D__law_apart.fn.kp D__law_apart.b passA (sa_cons (se_var 6) (sa_cons (se_var 7) (sa_cons (se_call (n := 1) G__law_corners (hr.mono (by decide)) (by rfl) D__law_corners.m D__law_corners.fn.kp D__law_corners.b passA (sa_cons (se_var 3) sa_nil)) sa_nil)))))
      (sss_cons (ss_set 9 sc_law.nd (se_call (n := 3) G_line_between (hr.mono (by decide)) (by rfl) D_line_between.m D_line_between.fn.kp D_line_between.b passA (sa_cons (se_var 4) (sa_cons (se_var 5) (sa_cons (se_var 3) sa_nil)))))
      (sss_cons (ss_set 10 sc_law.nd (se_call (n := 3) G_common_point (hr.mono (by decide)) (by rfl) D_common_point.m D_common_point.fn.kp D_common_point.b passA (sa_cons (se_var 4) (sa_cons (se_var 5) (sa_cons (se_var 3) sa_nil)))))
      (sss_cons (ss_if (st_w (sw_or (st_truth (se_call (n := 2) G__law_other (hr.mono (by decide)) (by rfl) D__law_other.m D__law_other.fn.kp D__law_other.b passA (sa_cons (se_call (n := 3) G_are_apart (hr.mono (by decide)) (by rfl) D_are_apart.m D_are_apart.fn.kp D_are_apart.b passA (sa_cons (se_var 4) (sa_cons (se_var 5) (sa_cons (se_var 3) sa_nil)))) (sa_cons (se_var 8) sa_nil)))) (sw_or (st_cmp (op_eqDD hr.units) (se_isN (se_var 9)) (se_var 8) (by first | exact nomark _ | rfl)) (sw_or1 (st_cmp (op_neDD hr.units) (se_isN (se_var 10)) (se_var 8) (by first | exact nomark _ | rfl)))))) (sss_one (ss_ret se_bl)) sss_nil)
      (sss_cons (ss_if (st_truth (se_var 8)) (sss_one (ss_if (st_w (sw_or (st_not (st_truth (se_call (n := 5) G__law_lies_between (hr.mono (by decide)) (by rfl) D__law_lies_between.m D__law_lies_between.fn.kp D__law_lies_between.b passA (sa_cons (se_ix (hu_of hr) (se_var 9) se_int (fun _ _ => rfl)) (sa_cons (se_ix (hu_of hr) (se_var 9) se_int (fun _ _ => rfl)) (sa_cons (se_var 6) (sa_cons (se_var 7) (sa_cons (se_var 3) sa_nil)))))))) (sw_or1 (st_cmp op_notbD (se_call (n := 4) G_is_line_between (hr.mono (by decide)) (by rfl) D_is_line_between.m D_is_line_between.fn.kp D_is_line_between.b passA (sa_cons (se_var 9) (sa_cons (se_var 4) (sa_cons (se_var 5) (sa_cons (se_var 3) sa_nil))))) se_bl (by first | exact nomark _ | rfl))))) (sss_one (ss_ret se_bl)) sss_nil)) (sss_one (ss_if (st_w (sw_or (st_not (st_truth (se_call (n := 2) G__law_in (hr.mono (by decide)) (by rfl) D__law_in.m D__law_in.fn.kp D__law_in.b passA (sa_cons (se_call (n := 1) G__law_scale (hr.mono (by decide)) (by rfl) D__law_scale.m D__law_scale.fn.kp D__law_scale.b passA (sa_cons (se_var 10) sa_nil)) (sa_cons (se_call (n := 1) G__law_corners (hr.mono (by decide)) (by rfl) D__law_corners.m D__law_corners.fn.kp D__law_corners.b passA (sa_cons (se_var 3) sa_nil)) sa_nil))))) (sw_or1 (st_not (st_truth (se_call (n := 3) G__law_on (hr.mono (by decide)) (by rfl) D__law_on.m D__law_on.fn.kp D__law_on.b passA (sa_cons (se_call (n := 1) G__law_scale (hr.mono (by decide)) (by rfl) D__law_scale.m D__law_scale.fn.kp D__law_scale.b passA (sa_cons (se_var 10) sa_nil)) (sa_cons (se_var 6) (sa_cons (se_var 7) sa_nil))))))))) (sss_one (ss_ret se_bl)) sss_nil)))
      (sss_cons (ss_set 11 sc_law.nd (se_tup (sa_cons (se_sub (se_call (n := 2) G__law_next (hr.mono (by decide)) (by rfl) D__law_next.m D__law_next.fn.kp D__law_next.b passA (sa_cons (se_var 1) (sa_cons se_int sa_nil))) se_int) (sa_cons (se_sub (se_call (n := 2) G__law_next (hr.mono (by decide)) (by rfl) D__law_next.m D__law_next.fn.kp D__law_next.b passA (sa_cons (se_var 1) (sa_cons se_int sa_nil))) se_int) sa_nil))))
      (sss_cons (ss_set 12 sc_law.nd (se_call (n := 2) G__law_ratio (hr.mono (by decide)) (by rfl) D__law_ratio.m D__law_ratio.fn.kp D__law_ratio.b passA (sa_cons (se_sub (se_call (n := 2) G__law_next (hr.mono (by decide)) (by rfl) D__law_next.m D__law_next.fn.kp D__law_next.b passA (sa_cons (se_var 1) (sa_cons se_int sa_nil))) se_int) (sa_cons (se_add se_int (se_call (n := 2) G__law_next (hr.mono (by decide)) (by rfl) D__law_next.m D__law_next.fn.kp D__law_next.b passA (sa_cons (se_var 1) (sa_cons se_int sa_nil)))) sa_nil))))
      (sss_cons (ss_if (st_w (sw_and (st_truth (se_var 8)) (sw_and1 (st_cmp (op_eqDD hr.units) (se_call (n := 2) G__law_next (hr.mono (by decide)) (by rfl) D__law_next.m D__law_next.fn.kp D__law_next.b passA (sa_cons (se_var 1) (sa_cons se_int sa_nil))) se_int (by first | exact nomark _ | rfl))))) (sss_cons (ss_set 11 sc_law.nd (se_ix (hu_of hr) (se_lstF (sa_cons (se_ix (hu_of hr) (se_var 9) se_int (fun _ _ => rfl)) (sa_cons (se_var 11) sa_nil))) (se_call (n := 2) G__law_next (hr.mono (by decide)) (by rfl) D__law_next.m D__law_next.fn.kp D__law_next.b passA (sa_cons (se_var 1) (sa_cons se_int sa_nil))) (fun _ _ => rfl)))
      (sss_one (ss_set 12 sc_law.nd (se_ix (hu_of hr) (se_lstF (sa_cons (se_ix (hu_of hr) (se_var 9) se_int (fun _ _ => rfl)) (sa_cons (se_var 12) sa_nil))) (se_call (n := 2) G__law_next (hr.mono (by decide)) (by rfl) D__law_next.m D__law_next.fn.kp D__law_next.b passA (sa_cons (se_var 1) (sa_cons se_int sa_nil))) (fun _ _ => rfl))))) sss_nil)
      (sss_one (ss_if (st_truth (se_call (n := 2) G__law_other (hr.mono (by decide)) (by rfl) D__law_other.m D__law_other.fn.kp D__law_other.b passA (sa_cons (se_call (n := 4) G_is_line_between (hr.mono (by decide)) (by rfl) D_is_line_between.m D_is_line_between.fn.kp D_is_line_between.b passA (sa_cons (se_tup (sa_cons (se_var 11) (sa_cons (se_var 12) sa_nil))) (sa_cons (se_var 4) (sa_cons (se_var 5) (sa_cons (se_var 3) sa_nil))))) (sa_cons (se_call (n := 5) G__law_lies_between (hr.mono (by decide)) (by rfl) D__law_lies_between.m D__law_lies_between.fn.kp D__law_lies_between.b passA (sa_cons (se_var 11) (sa_cons (se_var 12) (sa_cons (se_var 6) (sa_cons (se_var 7) (sa_cons (se_var 3) sa_nil)))))) sa_nil)))) (sss_one (ss_ret se_bl)) sss_nil))))))))))))))))
      (sss_one (ss_ret se_bl))))
end

set_option maxHeartbeats 0 in
theorem all_mk {l : PySem.W.OpenLaw} {w : World} {K : PySem.W.Frag} {h : Heap} {mg : Str → Option Value} {fa : Addr} (X : K.In h) (G : h.Ns mainGlobals mg) (hfa : mg "law" = some (.ref fa))
    (a__law_pot : DefIn K "_law_pot" s__law_pot)
    (a__law_next : DefIn K "_law_next" s__law_next)
    (a__law_area : DefIn K "_law_area" s__law_area)
    (a__law_hull : DefIn K "_law_hull" s__law_hull)
    (a__law_piece : DefIn K "_law_piece" s__law_piece)
    (a__law_ratio : DefIn K "_law_ratio" s__law_ratio)
    (a__law_place : DefIn K "_law_place" s__law_place)
    (a__law_scale : DefIn K "_law_scale" s__law_scale)
    (a__law_corners : DefIn K "_law_corners" s__law_corners)
    (a__law_det : DefIn K "_law_det" s__law_det)
    (a__law_mid : DefIn K "_law_mid" s__law_mid)
    (a__law_on : DefIn K "_law_on" s__law_on)
    (a__law_in : DefIn K "_law_in" s__law_in)
    (a__law_meet : DefIn K "_law_meet" s__law_meet)
    (a__law_apart : DefIn K "_law_apart" s__law_apart)
    (a_segment : DefIn K "segment" s_segment)
    (a_sides_of : DefIn K "sides_of" s_sides_of)
    (a_lowest : DefIn K "lowest" s_lowest)
    (a_planes_of : DefIn K "planes_of" s_planes_of)
    (a_directions : DefIn K "directions" s_directions)
    (a_ratio : DefIn K "ratio" s_ratio)
    (a_middle : DefIn K "middle" s_middle)
    (a_line_between : DefIn K "line_between" s_line_between)
    (a_part_in : DefIn K "part_in" s_part_in)
    (a_point_at : DefIn K "point_at" s_point_at)
    (a_common_point : DefIn K "common_point" s_common_point)
    (a_are_apart : DefIn K "are_apart" s_are_apart)
    (a__law_other : DefIn K "_law_other" s__law_other)
    (a__law_product : DefIn K "_law_product" s__law_product)
    (a__law_less : DefIn K "_law_less" s__law_less)
    (a__law_lies_between : DefIn K "_law_lies_between" s__law_lies_between)
    (a_is_less : DefIn K "is_less" s_is_less)
    (a_is_line_between : DefIn K "is_line_between" s_is_line_between)
    (a_law : DefIn K "law" s_law)
    (z_int : PySem.W.nsIn K mainGlobals "int" = some none)
    (z_list : PySem.W.nsIn K mainGlobals "list" = some none)
    (z_len : PySem.W.nsIn K mainGlobals "len" = some none)
    (z_abs : PySem.W.nsIn K mainGlobals "abs" = some none)
    (z_sorted : PySem.W.nsIn K mainGlobals "sorted" = some none)
    (z_dict : PySem.W.nsIn K mainGlobals "dict" = some none)
    (z_tuple : PySem.W.nsIn K mainGlobals "tuple" = some none)
    (z_range : PySem.W.nsIn K mainGlobals "range" = some none)
    (z_all : PySem.W.nsIn K mainGlobals "all" = some none)
    (z_any : PySem.W.nsIn K mainGlobals "any" = some none)
    (z_zip : PySem.W.nsIn K mainGlobals "zip" = some none)
    (z_max : PySem.W.nsIn K mainGlobals "max" = some none)
    (z_min : PySem.W.nsIn K mainGlobals "min" = some none)
    (z_isinstance : PySem.W.nsIn K mainGlobals "isinstance" = some none)
    (z_bool : PySem.W.nsIn K mainGlobals "bool" = some none)
    (b_lcm : PySem.W.nsIn K mainGlobals "lcm" = some (some (.builtin "math.lcm")))
    (b_gcd : PySem.W.nsIn K mainGlobals "gcd" = some (some (.builtin "math.gcd")))
    (k_WITHIN : ∃ t, PySem.W.nsIn K mainGlobals "WITHIN" = some (some (.int (0) t)))
    : ∃ fd : FuncData, (∀ (s : Shared) (v : Value), BindsTo s fd ⟨[v], []⟩ [("script", v)]) ∧ ∀ base : Heap, K.In base → base.Ns mainGlobals mg → FnOk l.prog w K mg base CX0 5 fa fd ["script"] (spM K 1 F_law) := by
  obtain ⟨f__law_pot, fd__law_pot, D__law_pot, bt__law_pot⟩ := a__law_pot.get ["script"] X G (fun _ _ _ _ _ _ us hl => match us, hl with | [_], _ => rfl)
  obtain ⟨f__law_next, fd__law_next, D__law_next, bt__law_next⟩ := a__law_next.get ["pot", "limit"] X G (fun _ _ _ _ _ _ us hl => match us, hl with | [_, _], _ => rfl)
  obtain ⟨f__law_area, fd__law_area, D__law_area, bt__law_area⟩ := a__law_area.get ["a", "b", "c"] X G (fun _ _ _ _ _ _ us hl => match us, hl with | [_, _, _], _ => rfl)
  obtain ⟨f__law_hull, fd__law_hull, D__law_hull, bt__law_hull⟩ := a__law_hull.get ["corners"] X G (fun _ _ _ _ _ _ us hl => match us, hl with | [_], _ => rfl)
  obtain ⟨f__law_piece, fd__law_piece, D__law_piece, bt__law_piece⟩ := a__law_piece.get ["pot", "at", "size"] X G (fun _ _ _ _ _ _ us hl => match us, hl with | [_, _, _], _ => rfl)
  obtain ⟨f__law_ratio, fd__law_ratio, D__law_ratio, bt__law_ratio⟩ := a__law_ratio.get ["n", "d"] X G (fun _ _ _ _ _ _ us hl => match us, hl with | [_, _], _ => rfl)
  obtain ⟨f__law_place, fd__law_place, D__law_place, bt__law_place⟩ := a__law_place.get ["pot", "width", "height"] X G (fun _ _ _ _ _ _ us hl => match us, hl with | [_, _, _], _ => rfl)
  obtain ⟨f__law_scale, fd__law_scale, D__law_scale, bt__law_scale⟩ := a__law_scale.get ["p"] X G (fun _ _ _ _ _ _ us hl => match us, hl with | [_], _ => rfl)
  obtain ⟨f__law_corners, fd__law_corners, D__law_corners, bt__law_corners⟩ := a__law_corners.get ["piece"] X G (fun _ _ _ _ _ _ us hl => match us, hl with | [_], _ => rfl)
  obtain ⟨f__law_det, fd__law_det, D__law_det, bt__law_det⟩ := a__law_det.get ["a", "b", "c"] X G (fun _ _ _ _ _ _ us hl => match us, hl with | [_, _, _], _ => rfl)
  obtain ⟨f__law_mid, fd__law_mid, D__law_mid, bt__law_mid⟩ := a__law_mid.get ["a", "b", "c"] X G (fun _ _ _ _ _ _ us hl => match us, hl with | [_, _, _], _ => rfl)
  obtain ⟨f__law_on, fd__law_on, D__law_on, bt__law_on⟩ := a__law_on.get ["p", "a", "b"] X G (fun _ _ _ _ _ _ us hl => match us, hl with | [_, _, _], _ => rfl)
  obtain ⟨f__law_in, fd__law_in, D__law_in, bt__law_in⟩ := a__law_in.get ["p", "corners"] X G (fun _ _ _ _ _ _ us hl => match us, hl with | [_, _], _ => rfl)
  obtain ⟨f__law_meet, fd__law_meet, D__law_meet, bt__law_meet⟩ := a__law_meet.get ["a", "b", "c", "d"] X G (fun _ _ _ _ _ _ us hl => match us, hl with | [_, _, _, _], _ => rfl)
  obtain ⟨f__law_apart, fd__law_apart, D__law_apart, bt__law_apart⟩ := a__law_apart.get ["a", "b", "corners"] X G (fun _ _ _ _ _ _ us hl => match us, hl with | [_, _, _], _ => rfl)
  obtain ⟨f_segment, fd_segment, D_segment, bt_segment⟩ := a_segment.get ["a", "b"] X G (fun _ _ _ _ _ _ us hl => match us, hl with | [_, _], _ => rfl)
  obtain ⟨f_sides_of, fd_sides_of, D_sides_of, bt_sides_of⟩ := a_sides_of.get ["piece"] X G (fun _ _ _ _ _ _ us hl => match us, hl with | [_], _ => rfl)
  obtain ⟨f_lowest, fd_lowest, D_lowest, bt_lowest⟩ := a_lowest.get ["u", "v"] X G (fun _ _ _ _ _ _ us hl => match us, hl with | [_, _], _ => rfl)
  obtain ⟨f_planes_of, fd_planes_of, D_planes_of, bt_planes_of⟩ := a_planes_of.get ["piece"] X G (fun _ _ _ _ _ _ us hl => match us, hl with | [_], _ => rfl)
  obtain ⟨f_directions, fd_directions, D_directions, bt_directions⟩ := a_directions.get ["ends", "piece"] X G (fun _ _ _ _ _ _ us hl => match us, hl with | [_, _], _ => rfl)
  obtain ⟨f_ratio, fd_ratio, D_ratio, bt_ratio⟩ := a_ratio.get ["n", "d"] X G (fun _ _ _ _ _ _ us hl => match us, hl with | [_, _], _ => rfl)
  obtain ⟨f_middle, fd_middle, D_middle, bt_middle⟩ := a_middle.get ["a", "b"] X G (fun _ _ _ _ _ _ us hl => match us, hl with | [_, _], _ => rfl)
  obtain ⟨f_line_between, fd_line_between, D_line_between, bt_line_between⟩ := a_line_between.get ["a", "b", "piece"] X G (fun _ _ _ _ _ _ us hl => match us, hl with | [_, _, _], _ => rfl)
  obtain ⟨f_part_in, fd_part_in, D_part_in, bt_part_in⟩ := a_part_in.get ["ends", "fence", "depth"] X G (fun _ _ _ _ _ _ us hl => match us, hl with | [_, _, _], _ => rfl)
  obtain ⟨f_point_at, fd_point_at, D_point_at, bt_point_at⟩ := a_point_at.get ["ends", "share"] X G (fun _ _ _ _ _ _ us hl => match us, hl with | [_, _], _ => rfl)
  obtain ⟨f_common_point, fd_common_point, D_common_point, bt_common_point⟩ := a_common_point.get ["a", "b", "piece"] X G (fun _ _ _ _ _ _ us hl => match us, hl with | [_, _, _], _ => rfl)
  obtain ⟨f_are_apart, fd_are_apart, D_are_apart, bt_are_apart⟩ := a_are_apart.get ["a", "b", "piece"] X G (fun _ _ _ _ _ _ us hl => match us, hl with | [_, _, _], _ => rfl)
  obtain ⟨f__law_other, fd__law_other, D__law_other, bt__law_other⟩ := a__law_other.get ["found", "due"] X G (fun _ _ _ _ _ _ us hl => match us, hl with | [_, _], _ => rfl)
  obtain ⟨f__law_product, fd__law_product, D__law_product, bt__law_product⟩ := a__law_product.get ["u", "p"] X G (fun _ _ _ _ _ _ us hl => match us, hl with | [_, _], _ => rfl)
  obtain ⟨f__law_less, fd__law_less, D__law_less, bt__law_less⟩ := a__law_less.get ["a", "b"] X G (fun _ _ _ _ _ _ us hl => match us, hl with | [_, _], _ => rfl)
  obtain ⟨f__law_lies_between, fd__law_lies_between, D__law_lies_between, bt__law_lies_between⟩ := a__law_lies_between.get ["u", "c", "a", "b", "piece"] X G (fun _ _ _ _ _ _ us hl => match us, hl with | [_, _, _, _, _], _ => rfl)
  obtain ⟨f_is_less, fd_is_less, D_is_less, bt_is_less⟩ := a_is_less.get ["a", "b"] X G (fun _ _ _ _ _ _ us hl => match us, hl with | [_, _], _ => rfl)
  obtain ⟨f_is_line_between, fd_is_line_between, D_is_line_between, bt_is_line_between⟩ := a_is_line_between.get ["line", "a", "b", "piece"] X G (fun _ _ _ _ _ _ us hl => match us, hl with | [_, _, _, _], _ => rfl)
  obtain ⟨f_law, fd_law, D_law, bt_law⟩ := a_law.get ["script"] X G (fun _ _ _ _ _ _ us hl => match us, hl with | [_], _ => rfl)
  have e := hfa.symm.trans D_law.m
  cases e
  have z_int := PySem.W.mg_none_of X G z_int
  have z_list := PySem.W.mg_none_of X G z_list
  have z_len := PySem.W.mg_none_of X G z_len
  have z_abs := PySem.W.mg_none_of X G z_abs
  have z_sorted := PySem.W.mg_none_of X G z_sorted
  have z_dict := PySem.W.mg_none_of X G z_dict
  have z_tuple := PySem.W.mg_none_of X G z_tuple
  have z_range := PySem.W.mg_none_of X G z_range
  have z_all := PySem.W.mg_none_of X G z_all
  have z_any := PySem.W.mg_none_of X G z_any
  have z_zip := PySem.W.mg_none_of X G z_zip
  have z_max := PySem.W.mg_none_of X G z_max
  have z_min := PySem.W.mg_none_of X G z_min
  have z_isinstance := PySem.W.mg_none_of X G z_isinstance
  have z_bool := PySem.W.mg_none_of X G z_bool
  have b_lcm := PySem.W.mg_of X G b_lcm
  have b_gcd := PySem.W.mg_of X G b_gcd
  have k_WITHIN := let ⟨t, q⟩ := k_WITHIN; (⟨t, PySem.W.mg_of X G q⟩ : ∃ t, mg "WITHIN" = some _)
  refine ⟨fd_law, fun s v => bt_law s [v] rfl, fun base _ _ => ?_⟩
  have G__law_pot := ok__law_pot (P := l.prog) (w := w) (base := base) D__law_pot z_int z_list
  have G__law_next := ok__law_next (P := l.prog) (w := w) (base := base) D__law_next z_len z_int z_abs
  have G__law_area := ok__law_area (P := l.prog) (w := w) (base := base) D__law_area
  have G__law_hull := ok__law_hull (P := l.prog) (w := w) (base := base) D__law_hull D__law_area G__law_area z_sorted z_dict z_len z_tuple z_range
  have G__law_piece := ok__law_piece (P := l.prog) (w := w) (base := base) D__law_piece D__law_next G__law_next D__law_hull G__law_hull z_range
  have G__law_ratio := ok__law_ratio (P := l.prog) (w := w) (base := base) D__law_ratio z_range z_int
  have G__law_place := ok__law_place (P := l.prog) (w := w) (base := base) D__law_place D__law_next G__law_next D__law_ratio G__law_ratio
  have G__law_scale := ok__law_scale (P := l.prog) (w := w) (base := base) D__law_scale
  have G__law_corners := ok__law_corners (P := l.prog) (w := w) (base := base) D__law_corners
  have G__law_det := ok__law_det (P := l.prog) (w := w) (base := base) D__law_det z_int
  have G__law_mid := ok__law_mid (P := l.prog) (w := w) (base := base) D__law_mid
  have G__law_on := ok__law_on (P := l.prog) (w := w) (base := base) D__law_on D__law_det G__law_det D__law_mid G__law_mid z_range z_all
  have G__law_in := ok__law_in (P := l.prog) (w := w) (base := base) D__law_in D__law_on G__law_on D__law_det G__law_det z_len z_range z_any
  have G__law_meet := ok__law_meet (P := l.prog) (w := w) (base := base) D__law_meet D__law_on G__law_on D__law_det G__law_det
  have G__law_apart := ok__law_apart (P := l.prog) (w := w) (base := base) D__law_apart D__law_in G__law_in D__law_meet G__law_meet z_range z_len z_any
  have G_segment := ok_segment (P := l.prog) (w := w) (base := base) D_segment b_lcm
  have G_sides_of := ok_sides_of (P := l.prog) (w := w) (base := base) D_sides_of z_zip
  have G_lowest := ok_lowest (P := l.prog) (w := w) (base := base) D_lowest b_gcd
  have G_planes_of := ok_planes_of (P := l.prog) (w := w) (base := base) D_planes_of D_sides_of G_sides_of D_lowest G_lowest z_max z_min z_len z_list
  have G_directions := ok_directions (P := l.prog) (w := w) (base := base) D_directions D_planes_of G_planes_of D_lowest G_lowest
  have G_ratio := ok_ratio (P := l.prog) (w := w) (base := base) D_ratio b_gcd
  have G_middle := ok_middle (P := l.prog) (w := w) (base := base) D_middle D_ratio G_ratio
  have G_line_between := ok_line_between (P := l.prog) (w := w) (base := base) D_line_between D_segment G_segment D_directions G_directions D_ratio G_ratio D_middle G_middle z_min z_max
  have G_part_in := ok_part_in (P := l.prog) (w := w) (base := base) D_part_in
  have G_point_at := ok_point_at (P := l.prog) (w := w) (base := base) D_point_at D_ratio G_ratio
  have G_common_point := ok_common_point (P := l.prog) (w := w) (base := base) D_common_point D_segment G_segment D_planes_of G_planes_of D_part_in G_part_in D_point_at G_point_at k_WITHIN
  have G_are_apart := ok_are_apart (P := l.prog) (w := w) (base := base) D_are_apart D_planes_of G_planes_of D_segment G_segment D_part_in G_part_in k_WITHIN
  have G__law_other := ok__law_other (P := l.prog) (w := w) (base := base) D__law_other z_isinstance z_bool
  have G__law_product := ok__law_product (P := l.prog) (w := w) (base := base) D__law_product
  have G__law_less := ok__law_less (P := l.prog) (w := w) (base := base) D__law_less
  have G__law_lies_between := ok__law_lies_between (P := l.prog) (w := w) (base := base) D__law_lies_between D__law_product G__law_product D__law_less G__law_less z_all
  have G_is_less := ok_is_less (P := l.prog) (w := w) (base := base) D_is_less
  have G_is_line_between := ok_is_line_between (P := l.prog) (w := w) (base := base) D_is_line_between D_is_less G_is_less z_all
  exact ok_law D_law D__law_pot G__law_pot D__law_next G__law_next D__law_piece G__law_piece D__law_place G__law_place D__law_scale G__law_scale D__law_corners G__law_corners D__law_apart G__law_apart D_line_between G_line_between D_common_point G_common_point D_are_apart G_are_apart D__law_other G__law_other D__law_lies_between G__law_lies_between D_is_line_between G_is_line_between D__law_in G__law_in D__law_on G__law_on D__law_ratio G__law_ratio z_range z_int


end LAW
open PySem PySem.W PyProof.Rows
set_option maxHeartbeats 0 in
theorem PySem.Challenge.cw_roomyway_k05_apart_or_with_a_common_poin_holds : PySem.Challenge.rw_roomyway_k05_apart_or_with_a_common_poin.Holds := by
  w_on; o_law; k_head; (case hw => w_witness2)
  k_fill
  refine L2.walk_ofK (l := PySem.Challenge.rw_roomyway_k05_apart_or_with_a_common_poin) (n := 63) (k := 5) (x := "script") (CX := L2.CX0) (sp := fun K => PL.spM K 1 LAW.F_law) rfl (by decide) rfl ⟨rfl, by decide, by decide⟩ (fun w h Y => PySem.W.kIn_of Y) ?F (fun K H a ns hl hO hS => PL.law_end hO hS (LAW.law_true ns hl)) (fun _ _ _ _ h => h)
  case F =>
    intro w mg fa h KX G hmg
    refine' LAW.all_mk KX G hmg ?a__law_pot ?a__law_next ?a__law_area ?a__law_hull ?a__law_piece ?a__law_ratio ?a__law_place ?a__law_scale ?a__law_corners ?a__law_det ?a__law_mid ?a__law_on ?a__law_in ?a__law_meet ?a__law_apart ?a_segment ?a_sides_of ?a_lowest ?a_planes_of ?a_directions ?a_ratio ?a_middle ?a_line_between ?a_part_in ?a_point_at ?a_common_point ?a_are_apart ?a__law_other ?a__law_product ?a__law_less ?a__law_lies_between ?a_is_less ?a_is_line_between ?a_law ?z_int ?z_list ?z_len ?z_abs ?z_sorted ?z_dict ?z_tuple ?z_range ?z_all ?z_any ?z_zip ?z_max ?z_min ?z_isinstance ?z_bool ?b_lcm ?b_gcd ?k_WITHIN
    (case a__law_pot => refine' PL.DefIn.mk ?a ?l ?c ?k; (case a => k_is); (case l => k_is); (case c => k_is); (case k => k_is))
    (case a__law_next => refine' PL.DefIn.mk ?a ?l ?c ?k; (case a => k_is); (case l => k_is); (case c => k_is); (case k => k_is))
    (case a__law_area => refine' PL.DefIn.mk ?a ?l ?c ?k; (case a => k_is); (case l => k_is); (case c => k_is); (case k => k_is))
    (case a__law_hull => refine' PL.DefIn.mk ?a ?l ?c ?k; (case a => k_is); (case l => k_is); (case c => k_is); (case k => k_is))
    (case a__law_piece => refine' PL.DefIn.mk ?a ?l ?c ?k; (case a => k_is); (case l => k_is); (case c => k_is); (case k => k_is))
    (case a__law_ratio => refine' PL.DefIn.mk ?a ?l ?c ?k; (case a => k_is); (case l => k_is); (case c => k_is); (case k => k_is))
    (case a__law_place => refine' PL.DefIn.mk ?a ?l ?c ?k; (case a => k_is); (case l => k_is); (case c => k_is); (case k => k_is))
    (case a__law_scale => refine' PL.DefIn.mk ?a ?l ?c ?k; (case a => k_is); (case l => k_is); (case c => k_is); (case k => k_is))
    (case a__law_corners => refine' PL.DefIn.mk ?a ?l ?c ?k; (case a => k_is); (case l => k_is); (case c => k_is); (case k => k_is))
    (case a__law_det => refine' PL.DefIn.mk ?a ?l ?c ?k; (case a => k_is); (case l => k_is); (case c => k_is); (case k => k_is))
    (case a__law_mid => refine' PL.DefIn.mk ?a ?l ?c ?k; (case a => k_is); (case l => k_is); (case c => k_is); (case k => k_is))
    (case a__law_on => refine' PL.DefIn.mk ?a ?l ?c ?k; (case a => k_is); (case l => k_is); (case c => k_is); (case k => k_is))
    (case a__law_in => refine' PL.DefIn.mk ?a ?l ?c ?k; (case a => k_is); (case l => k_is); (case c => k_is); (case k => k_is))
    (case a__law_meet => refine' PL.DefIn.mk ?a ?l ?c ?k; (case a => k_is); (case l => k_is); (case c => k_is); (case k => k_is))
    (case a__law_apart => refine' PL.DefIn.mk ?a ?l ?c ?k; (case a => k_is); (case l => k_is); (case c => k_is); (case k => k_is))
    (case a_segment => refine' PL.DefIn.mk ?a ?l ?c ?k; (case a => k_is); (case l => k_is); (case c => k_is); (case k => k_is))
    (case a_sides_of => refine' PL.DefIn.mk ?a ?l ?c ?k; (case a => k_is); (case l => k_is); (case c => k_is); (case k => k_is))
    (case a_lowest => refine' PL.DefIn.mk ?a ?l ?c ?k; (case a => k_is); (case l => k_is); (case c => k_is); (case k => k_is))
    (case a_planes_of => refine' PL.DefIn.mk ?a ?l ?c ?k; (case a => k_is); (case l => k_is); (case c => k_is); (case k => k_is))
    (case a_directions => refine' PL.DefIn.mk ?a ?l ?c ?k; (case a => k_is); (case l => k_is); (case c => k_is); (case k => k_is))
    (case a_ratio => refine' PL.DefIn.mk ?a ?l ?c ?k; (case a => k_is); (case l => k_is); (case c => k_is); (case k => k_is))
    (case a_middle => refine' PL.DefIn.mk ?a ?l ?c ?k; (case a => k_is); (case l => k_is); (case c => k_is); (case k => k_is))
    (case a_line_between => refine' PL.DefIn.mk ?a ?l ?c ?k; (case a => k_is); (case l => k_is); (case c => k_is); (case k => k_is))
    (case a_part_in => refine' PL.DefIn.mk ?a ?l ?c ?k; (case a => k_is); (case l => k_is); (case c => k_is); (case k => k_is))
    (case a_point_at => refine' PL.DefIn.mk ?a ?l ?c ?k; (case a => k_is); (case l => k_is); (case c => k_is); (case k => k_is))
    (case a_common_point => refine' PL.DefIn.mk ?a ?l ?c ?k; (case a => k_is); (case l => k_is); (case c => k_is); (case k => k_is))
    (case a_are_apart => refine' PL.DefIn.mk ?a ?l ?c ?k; (case a => k_is); (case l => k_is); (case c => k_is); (case k => k_is))
    (case a__law_other => refine' PL.DefIn.mk ?a ?l ?c ?k; (case a => k_is); (case l => k_is); (case c => k_is); (case k => k_is))
    (case a__law_product => refine' PL.DefIn.mk ?a ?l ?c ?k; (case a => k_is); (case l => k_is); (case c => k_is); (case k => k_is))
    (case a__law_less => refine' PL.DefIn.mk ?a ?l ?c ?k; (case a => k_is); (case l => k_is); (case c => k_is); (case k => k_is))
    (case a__law_lies_between => refine' PL.DefIn.mk ?a ?l ?c ?k; (case a => k_is); (case l => k_is); (case c => k_is); (case k => k_is))
    (case a_is_less => refine' PL.DefIn.mk ?a ?l ?c ?k; (case a => k_is); (case l => k_is); (case c => k_is); (case k => k_is))
    (case a_is_line_between => refine' PL.DefIn.mk ?a ?l ?c ?k; (case a => k_is); (case l => k_is); (case c => k_is); (case k => k_is))
    (case a_law => refine' PL.DefIn.mk ?a ?l ?c ?k; (case a => k_is); (case l => k_is); (case c => k_is); (case k => k_is))
    (case z_int => k_is)
    (case z_list => k_is)
    (case z_len => k_is)
    (case z_abs => k_is)
    (case z_sorted => k_is)
    (case z_dict => k_is)
    (case z_tuple => k_is)
    (case z_range => k_is)
    (case z_all => k_is)
    (case z_any => k_is)
    (case z_zip => k_is)
    (case z_max => k_is)
    (case z_min => k_is)
    (case z_isinstance => k_is)
    (case z_bool => k_is)
    (case b_lcm => k_is)
    (case b_gcd => k_is)
    (case k_WITHIN => exact ⟨_, by k_is⟩)
