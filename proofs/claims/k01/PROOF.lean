import PyProof.Rows.All
import Wide.All
import OpenK.AllK
import Wide.FinOn
import HandS.ForMost
import HandS.Wide
import HandS.WideMore
import HandS.Gcd
import HandS.IsInst
import HandS.Flow
import HandS.Style
import HandS.TupAny
import HandS.TupLe
import HandS.TupMul
import HandS.Conv
import HandS.SortRule
import HandS.TupSets
import HandS.DictTup
import HandS.Text
import HandS.Deep
import HandS.SortInts
import HandS.WordsExc
import HandS.RaiseMore
import HandS.Small
import PySem.Challenge.RW_roomyway_k01_turns_and_segments
set_option Elab.async false
set_option linter.all false
set_option maxRecDepth 100000
set_option autoImplicit false
/-! PL1: data, cells, a store; how they lie in the layer's abstract heap; readings by a mirror. -/
namespace PL
open PySem PySem.Spec PyProof.Rows L2

inductive D where
  | non | bl (b : Bool) | int (i : Int) | str (x : Str) | tup (xs : List D) | flst (xs : List D) | ptr (n : Nat)

inductive Cell where
  | lst (xs : List D)
  | dK (kvs : List (Key × D))
  | dT (kvs : List (List Key × D))
  | ins (C : Str) (fs : List (Str × D))
abbrev S := List Cell

inductive R (α : Type) where
  | stuck | ok (a : α) (s : S) | exc (c : Str) (s : S)
def M (α : Type) := S → R α
def M.pure {α} (a : α) : M α := fun s => .ok a s
def M.bind {α β} (m : M α) (f : α → M β) : M β := fun s => match m s with
  | .stuck => .stuck | .ok a s' => f a s' | .exc c s' => .exc c s'
instance : Monad M where
  pure := M.pure
  bind := M.bind
def stuck {α} : M α := fun _ => .stuck
theorem pure_run {α} (a : α) (s : S) : (Pure.pure a : M α) s = .ok a s := rfl
theorem bind_run {α β} (m : M α) (f : α → M β) (s : S) : (m >>= f) s = match m s with
  | .stuck => .stuck | .ok a s' => f a s' | .exc c s' => .exc c s' := rfl
theorem stuck_run {α} (s : S) : (stuck : M α) s = .stuck := rfl
theorem bind_ok {α β} {m : M α} {f : α → M β} {s s' : S} {a : α} (h : m s = .ok a s') : (m >>= f) s = f a s' := by
  rw [bind_run, h]
theorem bind_exc {α β} {m : M α} {f : α → M β} {s s' : S} {c : Str} (h : m s = .exc c s') : (m >>= f) s = .exc c s' := by
  rw [bind_run, h]
abbrev Env := List (Option D)

/-! ### how a store lies in the heap -/
/-- a list that never changes: frozen, or of the written part -/
def FrzL (K : PySem.W.Frag) (H : Hp) (a : Addr) (xs : List V) : Prop :=
  (∃ o, H a = some (.frz o (.lst xs))) ∨
    ∃ (o : Obj) (its : Array Value) (n : Nat), K.lookup a = some o ∧ o.cls = .type "list" ∧ o.dict = none ∧ o.data = .seq its n ∧ its.size ≤ sizeLine ∧ Vals xs its.toList
theorem FrzL.sqL {K : PySem.W.Frag} {H : Hp} {a : Addr} {xs : List V} (h : FrzL K H a xs) : SqL K H a xs := by
  rcases h with ⟨o, h⟩ | h
  · exact .inl (.inr ⟨o, h⟩)
  · exact .inr h

mutual
inductive Rep (K : PySem.W.Frag) (μ : List Addr) (H : Hp) : V → D → Prop
  | non : Rep K μ H .non .non
  | bl (b : Bool) : Rep K μ H (.bl b) (.bl b)
  | int (i : Int) : Rep K μ H (.int i) (.int i)
  | str (x : Str) : Rep K μ H (.str x) (.str x)
  | tup {a : Addr} {xs : List V} {ds : List D} : SqT K H a xs → RepL K μ H xs ds → Rep K μ H (.ref a) (.tup ds)
  | flst {a : Addr} {xs : List V} {ds : List D} : FrzL K H a xs → RepL K μ H xs ds → Rep K μ H (.ref a) (.flst ds)
  | ptr {a : Addr} {n : Nat} : μ[n]? = some a → Rep K μ H (.ref a) (.ptr n)
inductive RepL (K : PySem.W.Frag) (μ : List Addr) (H : Hp) : List V → List D → Prop
  | nil : RepL K μ H [] []
  | cons {v : V} {vs : List V} {d : D} {ds : List D} : Rep K μ H v d → RepL K μ H vs ds → RepL K μ H (v :: vs) (d :: ds)
end

structure Grow (μ : List Addr) (H : Hp) (μ' : List Addr) (H' : Hp) : Prop where
  pre : ∃ t, μ' = μ ++ t
  tup : ∀ a xs, H a = some (.tup xs) → H' a = some (.tup xs)
  frz : ∀ a o u, H a = some (.frz o u) → H' a = some (.frz o u)
  frm : ∀ a o, H a = some o → a ∉ μ' → H' a = some o
  new : ∀ a, a ∈ μ' → a ∈ μ ∨ H a = none
  trk : ∀ a, H' a = none → H a = none
theorem Grow.refl (μ : List Addr) (H : Hp) : Grow μ H μ H := ⟨⟨[], (List.append_nil μ).symm⟩, fun _ _ h => h, fun _ _ _ h => h, fun _ _ h _ => h, fun _ h => .inl h, fun _ h => h⟩
theorem Grow.trans {μ μ1 μ2 : List Addr} {H H1 H2 : Hp} (a : Grow μ H μ1 H1) (b : Grow μ1 H1 μ2 H2) : Grow μ H μ2 H2 := by
  obtain ⟨⟨t, ht⟩, a2, a3, a4, a5, a6⟩ := a
  obtain ⟨⟨u, hu⟩, b2, b3, b4, b5, b6⟩ := b
  refine ⟨⟨t ++ u, by rw [hu, ht, List.append_assoc]⟩, fun x xs h => b2 x xs (a2 x xs h), fun x o u h => b3 x o u (a3 x o u h), fun x o h n => b4 x o (a4 x o h fun z => n ?_) n, fun x h => ?_, fun x h => a6 x (b6 x h)⟩
  · rw [hu]
    exact List.mem_append_left _ z
  · rcases b5 x h with h | h
    · exact a5 x h
    · exact .inr (a6 x h)
theorem Grow.at {μ μ' : List Addr} {H H' : Hp} (g : Grow μ H μ' H') {n : Nat} {a : Addr} (h : μ[n]? = some a) : μ'[n]? = some a := by
  obtain ⟨t, rfl⟩ := g.pre
  rw [List.getElem?_append_left (List.getElem?_eq_some_iff.mp h).1]
  exact h
theorem Grow.sqT {K : PySem.W.Frag} {μ μ' : List Addr} {H H' : Hp} (g : Grow μ H μ' H') {a : Addr} {xs : List V} (h : SqT K H a xs) : SqT K H' a xs := by
  rcases h with (h | ⟨o, h⟩) | h
  · exact .inl (.inl (g.tup _ _ h))
  · exact .inl (.inr ⟨o, g.frz _ _ _ h⟩)
  · exact .inr h
theorem Grow.frzL {K : PySem.W.Frag} {μ μ' : List Addr} {H H' : Hp} (g : Grow μ H μ' H') {a : Addr} {xs : List V} (h : FrzL K H a xs) : FrzL K H' a xs := by
  rcases h with ⟨o, h⟩ | h
  · exact .inl ⟨o, g.frz _ _ _ h⟩
  · exact .inr h

mutual
theorem Rep.grow {K : PySem.W.Frag} {μ μ' : List Addr} {H H' : Hp} (g : Grow μ H μ' H') : ∀ (d : D) (v : V), Rep K μ H v d → Rep K μ' H' v d
  | .non, _, h => by cases h; exact .non
  | .bl b, _, h => by cases h; exact .bl b
  | .int i, _, h => by cases h; exact .int i
  | .str x, _, h => by cases h; exact .str x
  | .tup ds, _, h => by
    cases h with
    | tup hs hl => exact .tup (g.sqT hs) (RepL.grow g ds _ hl)
  | .flst ds, _, h => by
    cases h with
    | flst hs hl => exact .flst (g.frzL hs) (RepL.grow g ds _ hl)
  | .ptr n, _, h => by
    cases h with
    | ptr e => exact .ptr (g.at e)
theorem RepL.grow {K : PySem.W.Frag} {μ μ' : List Addr} {H H' : Hp} (g : Grow μ H μ' H') : ∀ (ds : List D) (vs : List V), RepL K μ H vs ds → RepL K μ' H' vs ds
  | [], _, h => by cases h; exact .nil
  | d :: ds, _, h => by
    cases h with
    | cons h1 h2 => exact .cons (Rep.grow g d _ h1) (RepL.grow g ds _ h2)
end
theorem RepL.length {K : PySem.W.Frag} {μ : List Addr} {H : Hp} : ∀ {vs : List V} {ds : List D}, RepL K μ H vs ds → vs.length = ds.length
  | _, _, .nil => rfl
  | _, _, .cons _ t => by rw [List.length_cons, List.length_cons, RepL.length t]
theorem RepL.get {K : PySem.W.Frag} {μ : List Addr} {H : Hp} : ∀ {vs : List V} {ds : List D} {i : Nat} {d : D}, RepL K μ H vs ds → ds[i]? = some d → ∃ v, vs[i]? = some v ∧ Rep K μ H v d
  | _, _, _, _, .nil, e => by simp at e
  | _, _, 0, _, .cons r _, e => by simp at e; subst e; exact ⟨_, rfl, r⟩
  | _, _, i + 1, d, .cons _ t, e => by
    obtain ⟨v, h1, h2⟩ := RepL.get (i := i) (d := d) t (by simpa using e)
    exact ⟨v, by simpa using h1, h2⟩
theorem RepL.getV {K : PySem.W.Frag} {μ : List Addr} {H : Hp} : ∀ {vs : List V} {ds : List D} {i : Nat} {v : V}, RepL K μ H vs ds → vs[i]? = some v → ∃ d, ds[i]? = some d ∧ Rep K μ H v d
  | _, _, _, _, .nil, e => by simp at e
  | _, _, 0, _, .cons r _, e => by simp at e; subst e; exact ⟨_, rfl, r⟩
  | _, _, i + 1, d, .cons _ t, e => by
    obtain ⟨v, h1, h2⟩ := RepL.getV (i := i) (v := d) t (by simpa using e)
    exact ⟨v, by simpa using h1, h2⟩
theorem RepL.append {K : PySem.W.Frag} {μ : List Addr} {H : Hp} : ∀ {vs ws : List V} {ds es : List D}, RepL K μ H vs ds → RepL K μ H ws es → RepL K μ H (vs ++ ws) (ds ++ es)
  | _, _, _, _, .nil, s => s
  | _, _, _, _, .cons r t, s => .cons r (RepL.append t s)
theorem RepL.set {K : PySem.W.Frag} {μ : List Addr} {H : Hp} {v : V} {d : D} (r : Rep K μ H v d) : ∀ {vs : List V} {ds : List D} (i : Nat), RepL K μ H vs ds → RepL K μ H (vs.set i v) (ds.set i d)
  | _, _, _, .nil => .nil
  | _, _, 0, .cons _ t => .cons r t
  | _, _, i + 1, .cons q t => .cons q (RepL.set r i t)
theorem RepL.take {K : PySem.W.Frag} {μ : List Addr} {H : Hp} : ∀ {vs : List V} {ds : List D} (n : Nat), RepL K μ H vs ds → RepL K μ H (vs.take n) (ds.take n)
  | _, _, 0, _ => .nil
  | _, _, _ + 1, .nil => .nil
  | _, _, n + 1, .cons r t => .cons r (RepL.take n t)
theorem RepL.drop {K : PySem.W.Frag} {μ : List Addr} {H : Hp} : ∀ {vs : List V} {ds : List D} (n : Nat), RepL K μ H vs ds → RepL K μ H (vs.drop n) (ds.drop n)
  | _, _, 0, r => r
  | _, _, _ + 1, .nil => .nil
  | _, _, n + 1, .cons _ t => RepL.drop n t
theorem RepL.reverse {K : PySem.W.Frag} {μ : List Addr} {H : Hp} : ∀ {vs : List V} {ds : List D}, RepL K μ H vs ds → RepL K μ H vs.reverse ds.reverse
  | _, _, .nil => .nil
  | _, _, .cons r t => by rw [List.reverse_cons, List.reverse_cons]; exact RepL.append (RepL.reverse t) (.cons r .nil)
/-- fields, values of a dict -/
def RepK {κ : Type} (K : PySem.W.Frag) (μ : List Addr) (H : Hp) (xs : List (κ × V)) (ds : List (κ × D)) : Prop := xs.map (·.1) = ds.map (·.1) ∧ RepL K μ H (xs.map (·.2)) (ds.map (·.2))
theorem RepK.grow {κ : Type} {K : PySem.W.Frag} {μ μ' : List Addr} {H H' : Hp} (g : Grow μ H μ' H') {xs : List (κ × V)} {ds : List (κ × D)} (h : RepK K μ H xs ds) : RepK K μ' H' xs ds := ⟨h.1, RepL.grow g _ _ h.2⟩

/-- the class of this name stands at c -/
def ClsAt (K : PySem.W.Frag) (x : Str) (c : Addr) : Prop := PySem.W.nsIn K mainGlobals x = some (some (.ref c))
theorem ClsAt.inj {K : PySem.W.Frag} {x : Str} {a b : Addr} (h : ClsAt K x a) (k : ClsAt K x b) : a = b := by
  unfold ClsAt at *
  rw [h] at k
  injection k with k
  injection k with k
  injection k
def CellOk (K : PySem.W.Frag) (μ : List Addr) (H : Hp) (a : Addr) : Cell → Prop
  | .lst ds => ∃ xs, H a = some (.lst xs) ∧ RepL K μ H xs ds
  | .dK kvs => ∃ xs, H a = some (.dK xs) ∧ RepK K μ H xs kvs
  | .dT kvs => ∃ xs, H a = some (.dT xs) ∧ RepK K μ H xs kvs
  | .ins C fs => ∃ c dx xs, ClsAt K C c ∧ H a = some (.ins c dx xs) ∧ RepK K μ H xs fs
structure SimS (K : PySem.W.Frag) (μ : List Addr) (H : Hp) (s : S) : Prop where
  len : μ.length = s.length
  nd : μ.Nodup
  cell : ∀ (n : Nat) (c : Cell), s[n]? = some c → ∃ a, μ[n]? = some a ∧ CellOk K μ H a c
structure SimV (K : PySem.W.Frag) (μ : List Addr) (H : Hp) (σ : L2.St) (env : Env) : Prop where
  len : σ.length = env.length
  val : ∀ (i : Nat) (d : D), env[i]? = some (some d) → ∃ v, σ[i]? = some (some v) ∧ Rep K μ H v d
theorem SimV.grow {K : PySem.W.Frag} {μ μ' : List Addr} {H H' : Hp} {σ : L2.St} {env : Env} (g : Grow μ H μ' H') (h : SimV K μ H σ env) : SimV K μ' H' σ env :=
  ⟨h.len, fun i d e => let ⟨v, h1, h2⟩ := h.val i d e; ⟨v, h1, Rep.grow g d v h2⟩⟩
theorem SimV.set {K : PySem.W.Frag} {μ : List Addr} {H : Hp} {σ : L2.St} {env : Env} {v : V} {d : D} (h : SimV K μ H σ env) (r : Rep K μ H v d) (i : Nat) : SimV K μ H (σ.set i (some v)) (env.set i (some d)) := by
  refine ⟨by rw [List.length_set, List.length_set, h.len], fun j e hj => ?_⟩
  by_cases hij : i = j
  · subst hij
    by_cases hl : i < env.length
    · rw [List.getElem?_set_self hl] at hj
      cases hj
      exact ⟨v, by rw [List.getElem?_set_self (by rw [h.len]; exact hl)], r⟩
    · rw [List.getElem?_eq_none (by rw [List.length_set]; omega)] at hj
      cases hj
  · rw [List.getElem?_set_ne hij] at hj
    obtain ⟨w, h1, h2⟩ := h.val j e hj
    exact ⟨w, by rw [List.getElem?_set_ne hij]; exact h1, h2⟩
/-- what a cell is of its object: the kinds that may be written -/
theorem CellOk.mut {K : PySem.W.Frag} {μ : List Addr} {H : Hp} {a : Addr} {c : Cell} (h : CellOk K μ H a c) : ∃ o, H a = some o ∧ Mut (some o) := by
  cases c with
  | lst ds => obtain ⟨xs, e, _⟩ := h; exact ⟨_, e, trivial⟩
  | dK kvs => obtain ⟨xs, e, _⟩ := h; exact ⟨_, e, trivial⟩
  | dT kvs => obtain ⟨xs, e, _⟩ := h; exact ⟨_, e, trivial⟩
  | ins C fs => obtain ⟨_, dx, xs, _, e, _⟩ := h; exact ⟨_, e, trivial⟩
theorem CellOk.grow {K : PySem.W.Frag} {μ μ' : List Addr} {H H' : Hp} {a : Addr} {c : Cell} (g : Grow μ H μ' H') (e : H' a = H a) (h : CellOk K μ H a c) : CellOk K μ' H' a c := by
  cases c with
  | lst ds => obtain ⟨xs, q, r⟩ := h; exact ⟨xs, e.trans q, RepL.grow g _ _ r⟩
  | dK kvs => obtain ⟨xs, q, r⟩ := h; exact ⟨xs, e.trans q, r.grow g⟩
  | dT kvs => obtain ⟨xs, q, r⟩ := h; exact ⟨xs, e.trans q, r.grow g⟩
  | ins C fs => obtain ⟨c, dx, xs, hc, q, r⟩ := h; exact ⟨c, dx, xs, hc, e.trans q, r.grow g⟩
mutual
theorem Rep.more {K : PySem.W.Frag} {μ μ' : List Addr} {H : Hp} (at1 : ∀ {j : Nat} {b : Addr}, μ[j]? = some b → μ'[j]? = some b) : ∀ (d : D) (v : V), Rep K μ H v d → Rep K μ' H v d
  | .non, _, h => by cases h; exact .non
  | .bl b, _, h => by cases h; exact .bl b
  | .int i, _, h => by cases h; exact .int i
  | .str x, _, h => by cases h; exact .str x
  | .tup ds, _, h => by
    cases h with
    | tup hs hl => exact .tup hs (RepL.more at1 ds _ hl)
  | .flst ds, _, h => by
    cases h with
    | flst hs hl => exact .flst hs (RepL.more at1 ds _ hl)
  | .ptr n, _, h => by
    cases h with
    | ptr e => exact .ptr (at1 e)
theorem RepL.more {K : PySem.W.Frag} {μ μ' : List Addr} {H : Hp} (at1 : ∀ {j : Nat} {b : Addr}, μ[j]? = some b → μ'[j]? = some b) : ∀ (ds : List D) (vs : List V), RepL K μ H vs ds → RepL K μ' H vs ds
  | [], _, h => by cases h; exact .nil
  | d :: ds, _, h => by
    cases h with
    | cons h1 h2 => exact .cons (Rep.more at1 d _ h1) (RepL.more at1 ds _ h2)
end
theorem CellOk.more {K : PySem.W.Frag} {μ μ' : List Addr} {H : Hp} {a : Addr} {c : Cell} (at1 : ∀ {j : Nat} {b : Addr}, μ[j]? = some b → μ'[j]? = some b) (h : CellOk K μ H a c) : CellOk K μ' H a c := by
  cases c with
  | lst ds => obtain ⟨xs, q, r⟩ := h; exact ⟨xs, q, RepL.more at1 _ _ r⟩
  | dK kvs => obtain ⟨xs, q, r⟩ := h; exact ⟨xs, q, r.1, RepL.more at1 _ _ r.2⟩
  | dT kvs => obtain ⟨xs, q, r⟩ := h; exact ⟨xs, q, r.1, RepL.more at1 _ _ r.2⟩
  | ins C fs => obtain ⟨c, dx, xs, hc, q, r⟩ := h; exact ⟨c, dx, xs, hc, q, r.1, RepL.more at1 _ _ r.2⟩
theorem SimS.mem {K : PySem.W.Frag} {μ : List Addr} {H : Hp} {s : S} (h : SimS K μ H s) {a : Addr} (ha : a ∈ μ) : ∃ o, H a = some o ∧ Mut (some o) := by
  obtain ⟨n, hn⟩ := List.getElem?_of_mem ha
  have hl : n < s.length := by rw [← h.len]; exact (List.getElem?_eq_some_iff.mp hn).1
  obtain ⟨b, hb, hc⟩ := h.cell n s[n] (List.getElem?_eq_getElem hl)
  rw [hn] at hb
  cases hb
  exact hc.mut
theorem upd_trk {H : Hp} {p : Addr} {o : HO} : ∀ a, upd H p o a = none → H a = none := fun a h => by
  by_cases e : a = p
  · rw [e, upd_same] at h
    cases h
  · rw [upd_ne e] at h
    exact h
/-- something that is no cell is laid -/
theorem grow_new {μ : List Addr} {H : Hp} {p : Addr} {o : HO} (hp : H p = none) : Grow μ H μ (upd H p o) :=
  ⟨⟨[], (List.append_nil μ).symm⟩, fun a xs h => by rw [upd_ne (ne_of_none h hp)]; exact h, fun a ob u h => by rw [upd_ne (ne_of_none h hp)]; exact h, fun a ob h _ => by rw [upd_ne (ne_of_none h hp)]; exact h, fun a h => .inl h, upd_trk⟩
theorem SimS.lay {K : PySem.W.Frag} {μ : List Addr} {H : Hp} {s : S} {p : Addr} {o : HO} (h : SimS K μ H s) (hp : H p = none) : SimS K μ (upd H p o) s :=
  ⟨h.len, h.nd, fun n c e => by
    obtain ⟨a, h1, h2⟩ := h.cell n c e
    obtain ⟨u, hu, _⟩ := h2.mut
    exact ⟨a, h1, h2.grow (grow_new hp) (upd_ne (ne_of_none hu hp))⟩⟩
/-- a new cell -/
theorem grow_cell {μ : List Addr} {H : Hp} {p : Addr} {o : HO} (hp : H p = none) : Grow μ H (μ ++ [p]) (upd H p o) :=
  ⟨⟨[p], rfl⟩, fun a xs h => by rw [upd_ne (ne_of_none h hp)]; exact h, fun a ob u h => by rw [upd_ne (ne_of_none h hp)]; exact h, fun a ob h _ => by rw [upd_ne (ne_of_none h hp)]; exact h, fun a h => by
    rcases List.mem_append.mp h with h | h
    · exact .inl h
    · rw [List.mem_singleton] at h
      rw [h]
      exact .inr hp, upd_trk⟩
theorem SimS.alloc {K : PySem.W.Frag} {μ : List Addr} {H : Hp} {s : S} {p : Addr} {o : HO} {c : Cell} (h : SimS K μ H s) (hp : H p = none) (hc : CellOk K (μ ++ [p]) (upd H p o) p c) : SimS K (μ ++ [p]) (upd H p o) (s ++ [c]) := by
  have np : p ∉ μ := fun hm => by
    obtain ⟨u, hu, _⟩ := h.mem hm
    rw [hp] at hu
    cases hu
  refine ⟨by rw [List.length_append, List.length_append, h.len]; rfl, ?_, fun n c' e => ?_⟩
  · rw [List.nodup_append]
    exact ⟨h.nd, List.nodup_cons.mpr ⟨List.not_mem_nil, List.nodup_nil⟩, fun a ha b hb => by
      rw [List.mem_singleton] at hb
      rw [hb]
      intro z
      rw [z] at ha
      exact np ha⟩
  · by_cases hn : n < s.length
    · rw [List.getElem?_append_left hn] at e
      obtain ⟨a, h1, h2⟩ := h.cell n c' e
      obtain ⟨u, hu, _⟩ := h2.mut
      exact ⟨a, (grow_cell (o := o) hp).at h1, h2.grow (grow_cell hp) (upd_ne (ne_of_none hu hp))⟩
    · have hn2 : n = s.length := by
        have q := (List.getElem?_eq_some_iff.mp e).1
        rw [List.length_append] at q
        simp at q
        omega
      subst hn2
      rw [List.getElem?_append_right (Nat.le_refl _)] at e
      simp at e
      subst e
      refine ⟨p, ?_, hc⟩
      rw [← h.len, List.getElem?_append_right (Nat.le_refl _)]
      simp
/-- a cell is written -/
theorem grow_put {μ : List Addr} {H : Hp} {a : Addr} {o : HO} (hm : Mut (H a)) (ha : a ∈ μ) : Grow μ H μ (upd H a o) :=
  ⟨⟨[], (List.append_nil μ).symm⟩, fun b xs h => by
    rw [upd_ne fun z => by rw [← z, h] at hm; exact hm]
    exact h, fun b ob u h => by
    rw [upd_ne fun z => by rw [← z, h] at hm; exact hm]
    exact h, fun b ob h n => by
    rw [upd_ne fun z => by rw [z] at n; exact n ha]
    exact h, fun b h => .inl h, upd_trk⟩
theorem SimS.put {K : PySem.W.Frag} {μ : List Addr} {H : Hp} {s : S} {a : Addr} {n : Nat} {o : HO} {c : Cell} (h : SimS K μ H s) (hn : μ[n]? = some a) (hm : Mut (H a)) (hc : CellOk K μ (upd H a o) a c) : SimS K μ (upd H a o) (s.set n c) := by
  refine ⟨by rw [List.length_set]; exact h.len, h.nd, fun j c' e => ?_⟩
  by_cases hj : n = j
  · subst hj
    have hl : n < s.length := by rw [← h.len]; exact (List.getElem?_eq_some_iff.mp hn).1
    rw [List.getElem?_set_self hl] at e
    cases e
    exact ⟨a, hn, hc⟩
  · rw [List.getElem?_set_ne hj] at e
    obtain ⟨b, h1, h2⟩ := h.cell j c' e
    refine ⟨b, h1, h2.grow (grow_put hm (List.mem_of_getElem? hn)) (upd_ne fun z => hj ?_)⟩
    subst z
    exact nd_ix h.nd hn h1

/-- a list that stands beside the store joins it -/
theorem grow_join {μ : List Addr} {H : Hp} {p : Addr} {μ0 : List Addr} {H0 : Hp} (g : Grow μ0 H0 μ H) (h0 : H0 p = none) : Grow μ0 H0 (μ ++ [p]) H := by
  obtain ⟨⟨t, ht⟩, a2, a3, a4, a5, a6⟩ := g
  refine ⟨⟨t ++ [p], by rw [ht, List.append_assoc]⟩, a2, a3, fun a o h n => a4 a o h fun z => n (List.mem_append_left _ z), fun a h => ?_, a6⟩
  rcases List.mem_append.mp h with h | h
  · exact a5 a h
  · rw [List.mem_singleton] at h
    rw [h]
    exact .inr h0
theorem SimS.join {K : PySem.W.Frag} {μ : List Addr} {H : Hp} {s : S} {p : Addr} {c : Cell} (h : SimS K μ H s) (np : p ∉ μ) (hc : CellOk K (μ ++ [p]) H p c) : SimS K (μ ++ [p]) H (s ++ [c]) := by
  have gr : ∀ (n : Nat) (c' : Cell), s[n]? = some c' → ∃ a, (μ ++ [p])[n]? = some a ∧ CellOk K (μ ++ [p]) H a c' := fun n c' e => by
    obtain ⟨a, h1, h2⟩ := h.cell n c' e
    have at1 : ∀ {j : Nat} {b : Addr}, μ[j]? = some b → (μ ++ [p])[j]? = some b := fun q => by
      rw [List.getElem?_append_left (List.getElem?_eq_some_iff.mp q).1]
      exact q
    exact ⟨a, at1 h1, CellOk.more at1 h2⟩
  refine ⟨by rw [List.length_append, List.length_append, h.len]; rfl, ?_, fun n c' e => ?_⟩
  · rw [List.nodup_append]
    exact ⟨h.nd, List.nodup_cons.mpr ⟨List.not_mem_nil, List.nodup_nil⟩, fun a ha b hb => by
      rw [List.mem_singleton] at hb
      rw [hb]
      intro z
      rw [z] at ha
      exact np ha⟩
  · by_cases hn : n < s.length
    · rw [List.getElem?_append_left hn] at e
      exact gr n c' e
    · have hn2 : n = s.length := by
        have q := (List.getElem?_eq_some_iff.mp e).1
        rw [List.length_append] at q
        simp at q
        omega
      subst hn2
      rw [List.getElem?_append_right (Nat.le_refl _)] at e
      simp at e
      subst e
      refine ⟨p, ?_, hc⟩
      rw [← h.len, List.getElem?_append_right (Nat.le_refl _)]
      simp

/-! ### what is wanted behind a mirror's answer -/
section
variable (K : PySem.W.Frag) (E : XK)
def Post {α : Type} (μ : List Addr) (H : Hp) (r : R α) (q : α → S → List Addr → Hp → Prop) : Prop := match r with
  | .stuck => False
  | .ok a s' => ∀ μ' H', Grow μ H μ' H' → SimS K μ' H' s' → q a s' μ' H'
  | .exc c s' => ∀ C, ClsAt K c C → ∀ μ' H', Grow μ H μ' H' → SimS K μ' H' s' → E (.ref C) none H'
end
section
variable {K : PySem.W.Frag} {E : XK} {α β : Type} {μ μ1 : List Addr} {H H1 : Hp}
theorem Post.mono {r : R α} {q q' : α → S → List Addr → Hp → Prop} (h : Post K E μ H r q) (f : ∀ a s' μ' H', Grow μ H μ' H' → SimS K μ' H' s' → q a s' μ' H' → q' a s' μ' H') : Post K E μ H r q' := by
  cases r with
  | stuck => exact h
  | ok a s' => exact fun μ' H' g hs => f a s' μ' H' g hs (h μ' H' g hs)
  | exc c s' => exact h
theorem Post.later {r : R α} {q : α → S → List Addr → Hp → Prop} (g : Grow μ H μ1 H1) (h : Post K E μ H r q) : Post K E μ1 H1 r q := by
  cases r with
  | stuck => exact h
  | ok a s' => exact fun μ' H' g' hs => h μ' H' (g.trans g') hs
  | exc c s' => exact fun C hC μ' H' g' hs => h C hC μ' H' (g.trans g') hs
theorem Post.bind {m : M α} {f : α → M β} {s : S} {q : β → S → List Addr → Hp → Prop} (h : Post K E μ H ((m >>= f) s) q) : Post K E μ H (m s) (fun a s1 μ1 H1 => Post K E μ1 H1 (f a s1) q) := by
  rw [bind_run] at h
  cases e : m s with
  | stuck => rw [e] at h; exact h
  | ok a s' =>
    rw [e] at h
    exact fun μ' H' g hs => Post.later g h
  | exc c s' => rw [e] at h; exact h
theorem Post.now {a : α} {s : S} {q : α → S → List Addr → Hp → Prop} (h : Post K E μ H (.ok a s) q) (hs : SimS K μ H s) : q a s μ H := h μ H (Grow.refl μ H) hs
end
def okD (K : PySem.W.Frag) (Q : VK) (d : D) (_ : S) (μ : List Addr) (H : Hp) : Prop := ∀ v, Rep K μ H v d → Q v H
def okL (K : PySem.W.Frag) (Q : List V → Hp → Prop) (ds : List D) (_ : S) (μ : List Addr) (H : Hp) : Prop := ∀ vs, RepL K μ H vs ds → Q vs H
def okB (Q : Bool → Hp → Prop) (b : Bool) (_ : S) (_ : List Addr) (H : Hp) : Prop := Q b H
inductive Out where
  | nx (env : Env) | rt (d : D) | bk (env : Env) | ct (env : Env)
def okO (K : PySem.W.Frag) (Dd : Ends) (o : Out) (_ : S) (μ : List Addr) (H : Hp) : Prop := match o with
  | .nx env => ∀ σ, SimV K μ H σ env → Dd.nx σ H
  | .rt d => ∀ v, Rep K μ H v d → Dd.rt v H
  | .bk env => ∀ σ, SimV K μ H σ env → Dd.bk σ H
  | .ct env => ∀ σ, SimV K μ H σ env → Dd.ct σ H

def TEof (K : PySem.W.Frag) (E : XK) (m : Env → M D) : TE := fun σ H Q => ∃ μ env s, SimV K μ H σ env ∧ SimS K μ H s ∧ Post K E μ H (m env s) (okD K Q)
def TTof (K : PySem.W.Frag) (E : XK) (m : Env → M Bool) : TT := fun σ H Q => ∃ μ env s, SimV K μ H σ env ∧ SimS K μ H s ∧ Post K E μ H (m env s) (okB Q)
def TAof (K : PySem.W.Frag) (E : XK) (m : Env → M (List D)) : TA := fun σ H Q => ∃ μ env s, SimV K μ H σ env ∧ SimS K μ H s ∧ Post K E μ H (m env s) (okL K Q)
def TSof (K : PySem.W.Frag) (E : XK) (m : Env → M Out) : TS := fun Dd σ H => ∃ μ env s, SimV K μ H σ env ∧ SimS K μ H s ∧ Post K E μ H (m env s) (okO K Dd)
def SE (X : Cx) (E : XK) (e : Expr) (m : Env → M D) : Prop := PE X e (TEof X.K E m)
def ST (X : Cx) (E : XK) (e : Expr) (m : Env → M Bool) : Prop := PT X e (TTof X.K E m)
def SW (X : Cx) (E : XK) (e : Expr) (m : Env → M Bool) : Prop := PW X e (TTof X.K E m)
def SA (X : Cx) (E : XK) (es : List Expr) (m : Env → M (List D)) : Prop := PA X es (TAof X.K E m)
def SS (X : Cx) (E : XK) (st : Stmt) (m : Env → M Out) : Prop := PS X st (TSof X.K E m)
def SSs (X : Cx) (E : XK) (sts : List Stmt) (m : Env → M Out) : Prop := PSs X sts (TSof X.K E m)

theorem PE.imp {X : Cx} {e : Expr} {t t' : TE} (h : PE X e t) (f : ∀ σ H Q, t' σ H Q → t σ H Q) : PE X e t' := ⟨fun pins s σ H Q I q => h.run pins s σ H Q I (f σ H Q q)⟩
theorem PT.imp {X : Cx} {e : Expr} {t t' : TT} (h : PT X e t) (f : ∀ σ H Q, t' σ H Q → t σ H Q) : PT X e t' := ⟨fun pins s σ H Q I q => h.run pins s σ H Q I (f σ H Q q)⟩
theorem PW.imp {X : Cx} {e : Expr} {t t' : TT} (h : PW X e t) (f : ∀ σ H Q, t' σ H Q → t σ H Q) : PW X e t' := ⟨fun wh pins s σ H Q I q => h.run wh pins s σ H Q I (f σ H Q q)⟩
theorem PA.imp {X : Cx} {es : List Expr} {t t' : TA} (h : PA X es t) (f : ∀ σ H Q, t' σ H Q → t σ H Q) : PA X es t' := ⟨fun p pins s σ H Q I q => h.run p pins s σ H Q I (f σ H Q q)⟩
theorem PS.imp {X : Cx} {st : Stmt} {t t' : TS} (h : PS X st t) (f : ∀ Dd σ H, t' Dd σ H → t Dd σ H) : PS X st t' := ⟨fun pins s σ H Dd I q => h.run pins s σ H Dd I (f Dd σ H q)⟩
theorem PSs.imp {X : Cx} {st : List Stmt} {t t' : TS} (h : PSs X st t) (f : ∀ Dd σ H, t' Dd σ H → t Dd σ H) : PSs X st t' := ⟨fun pins s σ H Dd I q => h.run pins s σ H Dd I (f Dd σ H q)⟩
end PL

/-! PL2: operators, comparisons, calls of built-ins: what they are of data. -/
namespace PL
open PySem PySem.Spec PyProof.Rows L2

/-! ### readings by a function of data -/
section
variable (K : PySem.W.Frag) (E : XK)
def R2of (f : D → D → M D) : R2 := fun x y H Q => ∃ μ s dx dy, SimS K μ H s ∧ Rep K μ H x dx ∧ Rep K μ H y dy ∧ Post K E μ H (f dx dy s) (okD K Q)
def R1of (f : D → M D) : V → Hp → VK → Prop := fun x H Q => ∃ μ s dx, SimS K μ H s ∧ Rep K μ H x dx ∧ Post K E μ H (f dx s) (okD K Q)
def RLof (f : List D → M D) : List V → Hp → VK → Prop := fun xs H Q => ∃ μ s ds, SimS K μ H s ∧ RepL K μ H xs ds ∧ Post K E μ H (f ds s) (okD K Q)
def RMof (f : D → List D → M D) : V → List V → Hp → VK → Prop := fun x xs H Q => ∃ μ s dx ds, SimS K μ H s ∧ Rep K μ H x dx ∧ RepL K μ H xs ds ∧ Post K E μ H (f dx ds s) (okD K Q)
def RBof (f : D → M Bool) : V → Hp → (Bool → Hp → Prop) → Prop := fun x H Q => ∃ μ s dx, SimS K μ H s ∧ Rep K μ H x dx ∧ Post K E μ H (f dx s) (okB Q)
end

/-! ### sizes -/
def Bt (n : Nat) (i : Int) : Prop := i.natAbs < 2 ^ n
theorem Bt.mono {m n : Nat} {i : Int} (h : Bt m i) (l : m ≤ n) : Bt n i := Nat.lt_of_lt_of_le h (Nat.pow_le_pow_right (by decide) l)
theorem Bt.mul {m n : Nat} {i j : Int} (h : Bt m i) (k : Bt n j) : Bt (m + n) (i * j) := by
  unfold Bt at *
  rw [Int.natAbs_mul, Nat.pow_add]
  exact Nat.mul_lt_mul'' h k
theorem Bt.add {n : Nat} {i j : Int} (h : Bt n i) (k : Bt n j) : Bt (n + 1) (i + j) := by
  unfold Bt at *
  have := Int.natAbs_add_le i j
  rw [Nat.pow_succ]
  omega
theorem Bt.sub {n : Nat} {i j : Int} (h : Bt n i) (k : Bt n j) : Bt (n + 1) (i - j) := by
  unfold Bt at *
  have := Int.natAbs_sub_le i j
  rw [Nat.pow_succ]
  omega
theorem Bt.neg {n : Nat} {i : Int} (h : Bt n i) : Bt n (-i) := by
  unfold Bt at *
  rw [Int.natAbs_neg]
  exact h
theorem Bt.le {n : Nat} {i j : Int} (h : Bt n i) (l : j.natAbs ≤ i.natAbs) : Bt n j := Nat.lt_of_le_of_lt l h
structure MulOk (i j : Int) : Prop where
  ok : (-18446744073709551616 < i ∧ i < 18446744073709551616) ∨ (-18446744073709551616 < j ∧ j < 18446744073709551616) ∨ (Bt 400000 i ∧ Bt 400000 j)
structure DivOk (j : Int) : Prop where
  ok : Bt 9000 j
structure PowOk (i j : Int) : Prop where
  ok : (0 ≤ j ∧ j ≤ 1000) ∧ (-18446744073709551616 < i ∧ i < 18446744073709551616)
noncomputable instance decMulOk (i j : Int) : Decidable (MulOk i j) := Classical.propDecidable _
noncomputable instance decDivOk (j : Int) : Decidable (DivOk j) := Classical.propDecidable _
noncomputable instance decPowOk (i j : Int) : Decidable (PowOk i j) := Classical.propDecidable _
theorem mulOk_b {i j : Int} (h : Bt 400000 i) (k : Bt 400000 j) : MulOk i j := ⟨.inr (.inr ⟨h, k⟩)⟩
theorem mulOk_l {i j : Int} (h : -18446744073709551616 < i) (k : i < 18446744073709551616) : MulOk i j := ⟨.inl ⟨h, k⟩⟩
theorem mulOk_r {i j : Int} (h : -18446744073709551616 < j) (k : j < 18446744073709551616) : MulOk i j := ⟨.inr (.inl ⟨h, k⟩)⟩

/-! ### operators -/
def allocC (c : Cell) : M D := fun s => .ok (.ptr s.length) (s ++ [c])
def addD : D → D → M D
  | .int i, .int j => pure (.int (i + j))
  | .int i, .bl k => pure (.int (i + b2i k))
  | .str a, .str b => if a.length + b.length ≤ 100000 then pure (.str (a ++ b)) else stuck
  | .tup a, .tup b => if a.length + b.length ≤ 100000 then pure (.tup (a ++ b)) else stuck
  | .ptr n, .ptr m => fun s => match s[n]?, s[m]? with
    | some (.lst a), some (.lst b) => if a.length + b.length ≤ 100000 then allocC (.lst (a ++ b)) s else .stuck
    | _, _ => .stuck
  | _, _ => stuck
def subD : D → D → M D
  | .int i, .int j => pure (.int (i - j))
  | _, _ => stuck
noncomputable def mulD : D → D → M D
  | .int i, .int j => if MulOk i j then pure (.int (i * j)) else stuck
  | _, _ => stuck
noncomputable def fdivD : D → D → M D
  | .int i, .int j => if DivOk j then (if j = 0 then stuck else pure (.int (if 0 < j then i / j else i.fdiv j))) else stuck
  | _, _ => stuck
def modD : D → D → M D
  | .int i, .int j => if j = 0 then stuck else pure (.int (if 0 < j then i % j else i.fmod j))
  | _, _ => stuck
noncomputable def powD : D → D → M D
  | .int i, .int j => if PowOk i j then pure (.int (i ^ j.toNat)) else stuck
  | _, _ => stuck
def negD : D → M D
  | .int i => pure (.int (-i))
  | _ => stuck

section
variable {X : Cx} {E : XK}
theorem sz_ok {n : Nat} (h : n ≤ 100000) : n ≤ sizeLine := Nat.le_trans h (by decide)
/-- a list laid -/
theorem post_alloc {K : PySem.W.Frag} {μ : List Addr} {H : Hp} {s : S} {ds : List D} {xs : List V} {Q : VK} (hs : SimS K μ H s) (r : RepL K μ H xs ds) (h : Post K E μ H (allocC (.lst ds) s) (okD K Q)) : ∀ p, H p = none → Q (.ref p) (upd H p (.lst xs)) := fun p hp => by
  have hs2 : SimS K (μ ++ [p]) (upd H p (.lst xs)) (s ++ [.lst ds]) := hs.alloc hp ⟨xs, upd_same, RepL.grow (grow_cell hp) _ _ r⟩
  refine h _ _ (grow_cell hp) hs2 (.ref p) (.ptr ?_)
  rw [← hs.len, List.getElem?_append_right (Nat.le_refl _)]
  simp
/-- a tuple laid -/
theorem post_tup {K : PySem.W.Frag} {μ : List Addr} {H : Hp} {s : S} {ds : List D} {xs : List V} {Q : VK} (hs : SimS K μ H s) (r : RepL K μ H xs ds) (h : Post K E μ H (.ok (.tup ds) s) (okD K Q)) : ∀ p, H p = none → Q (.ref p) (upd H p (.tup xs)) := fun p hp =>
  h _ _ (grow_new hp) (hs.lay hp) (.ref p) (.tup (SqT.of upd_same) (RepL.grow (grow_new hp) _ _ r))
theorem post_val {K : PySem.W.Frag} {μ : List Addr} {H : Hp} {s : S} {d : D} {v : V} {Q : VK} (hs : SimS K μ H s) (h : Post K E μ H (.ok d s) (okD K Q)) (r : Rep K μ H v d) : Q v H := Post.now h hs v r
theorem post_bl {K : PySem.W.Frag} {μ : List Addr} {H : Hp} {s : S} {d : Bool} {Q : VK} (hs : SimS K μ H s) (h : Post K E μ H (.ok (.bl d) s) (okD K Q)) : Q (.bl d) H := Post.now h hs _ (.bl d)
theorem post_int {K : PySem.W.Frag} {μ : List Addr} {H : Hp} {s : S} {d : Int} {Q : VK} (hs : SimS K μ H s) (h : Post K E μ H (.ok (.int d) s) (okD K Q)) : Q (.int d) H := Post.now h hs _ (.int d)
theorem post_str {K : PySem.W.Frag} {μ : List Addr} {H : Hp} {s : S} {d : Str} {Q : VK} (hs : SimS K μ H s) (h : Post K E μ H (.ok (.str d) s) (okD K Q)) : Q (.str d) H := Post.now h hs _ (.str d)
/-- a cell by its pointer -/
theorem cell_lst {K : PySem.W.Frag} {μ : List Addr} {H : Hp} {s : S} {n : Nat} {a : Addr} {ds : List D} (hs : SimS K μ H s) (ha : μ[n]? = some a) (e : s[n]? = some (.lst ds)) : ∃ xs, H a = some (.lst xs) ∧ RepL K μ H xs ds := by
  obtain ⟨b, hb, hc⟩ := hs.cell n _ e
  rw [ha] at hb
  cases hb
  exact hc

theorem op_addD : OpR X (binaryOp .Add) (R2of X.K E addD) := by
  intro pins s σ H x y v u Q I rx ry h
  obtain ⟨μ, st, dx, dy, hs, hx, hy, post⟩ := h
  unfold addD at post
  split at post
  · rename_i i j
    cases hx
    cases hy
    rw [pure_run] at post
    exact op_add pins s σ H _ _ v u Q I rx ry ⟨i, j, rfl, rfl, post_int hs post⟩
  · rename_i i k
    cases hx
    cases hy
    rw [pure_run] at post
    exact op_add_ib pins s σ H _ _ v u Q I rx ry ⟨i, k, rfl, rfl, post_int hs post⟩
  · rename_i a b
    cases hx
    cases hy
    split at post
    · rename_i hl
      rw [pure_run] at post
      exact op_add_str pins s σ H _ _ v u Q I rx ry ⟨a, b, rfl, rfl, sz_ok hl, post_str hs post⟩
    · exact (show False from post).elim
  · rename_i ds es
    cases hx with
    | @tup a xs _ ha la =>
      cases hy with
      | @tup b ys _ hb lb =>
        split at post
        · rename_i hl
          rw [pure_run] at post
          have cat := la.append lb
          refine op_catA pins s σ H _ _ v u Q I rx ry ⟨a, b, xs, ys, rfl, rfl, ha, hb, by rw [la.length, lb.length]; exact sz_ok hl, fun e => ?_, fun _ e => ?_, fun _ _ => post_tup hs cat post⟩
          · subst e
            exact post_val hs post (.tup hb cat)
          · subst e
            rw [List.append_nil] at cat
            exact post_val hs post (.tup ha cat)
        · exact (show False from post).elim
  · rename_i n m
    cases hx with
    | ptr ha =>
      cases hy with
      | ptr hb =>
        split at post
        · rename_i da db e1 e2
          obtain ⟨xs, h1, r1⟩ := cell_lst hs ha e1
          obtain ⟨ys, h2, r2⟩ := cell_lst hs hb e2
          split at post
          · rename_i hl
            exact op_cat pins s σ H _ _ v u Q I rx ry ⟨_, _, xs, ys, rfl, rfl, h1, h2, by rw [r1.length, r2.length]; exact sz_ok hl, post_alloc hs (r1.append r2) post⟩
          · exact (show False from post).elim
        · exact (show False from post).elim
  · rename_i h1 h2 h3 h4 h5
    cases hx <;> cases hy <;> first | exact (show False from post).elim | exact (h1 _ _ rfl rfl).elim | exact (h2 _ _ rfl rfl).elim | exact (h3 _ _ rfl rfl).elim | exact (h4 _ _ rfl rfl).elim | exact (h5 _ _ rfl rfl).elim
theorem op_subD : OpR X (binaryOp .Sub) (R2of X.K E subD) := by
  intro pins s σ H x y v u Q I rx ry h
  obtain ⟨μ, st, dx, dy, hs, hx, hy, post⟩ := h
  unfold subD at post
  split at post
  · rename_i i j
    cases hx
    cases hy
    rw [pure_run] at post
    exact op_sub pins s σ H _ _ v u Q I rx ry ⟨i, j, rfl, rfl, post_int hs post⟩
  · rename_i h1
    cases hx <;> cases hy <;> first | exact (show False from post).elim | exact (h1 _ _ rfl rfl).elim
theorem op_mulD : OpR X (binaryOp .Mult) (R2of X.K E mulD) := by
  intro pins s σ H x y v u Q I rx ry h
  obtain ⟨μ, st, dx, dy, hs, hx, hy, post⟩ := h
  unfold mulD at post
  split at post
  · rename_i i j
    cases hx
    cases hy
    split at post
    · rename_i hm
      rw [pure_run] at post
      rcases hm.ok with hm | hm | ⟨h1, h2⟩
      · exact op_mul pins s σ H _ _ v u Q I rx ry ⟨i, j, rfl, rfl, .inl (by omega), post_int hs post⟩
      · exact op_mul pins s σ H _ _ v u Q I rx ry ⟨i, j, rfl, rfl, .inr (by omega), post_int hs post⟩
      · exact op_mulW pins s σ H _ _ v u Q I rx ry ⟨i, j, rfl, rfl, wide_mul h1 h2 (by decide) (by decide) (by decide), post_int hs post⟩
    · exact (show False from post).elim
  · rename_i h1
    cases hx <;> cases hy <;> first | exact (show False from post).elim | exact (h1 _ _ rfl rfl).elim
theorem op_fdivD : OpR X (binaryOp .FloorDiv) (R2of X.K E fdivD) := by
  intro pins s σ H x y v u Q I rx ry h
  obtain ⟨μ, st, dx, dy, hs, hx, hy, post⟩ := h
  unfold fdivD at post
  split at post
  · rename_i i j
    cases hx
    cases hy
    split at post
    · rename_i hd
      split at post
      · exact (show False from post).elim
      · rename_i hj
        rw [pure_run] at post
        have q := post_int hs post
        have h9 : j.natAbs.log2 < 9000 := PySem.Flt.log2_lt_of (by decide) hd.ok
        have g : OpR X (binaryOp .FloorDiv) (rI (fun _ j => j ≠ 0 ∧ j.natAbs.log2 < 9000) fun i j => .int (i.fdiv j)) := opI fun _ _ _ _ _ _ _ hc q => floordiv_int hc.1 q (.inl (PyProof.noPylong_of_log2 hc.2))
        refine g pins s σ H _ _ v u Q I rx ry ⟨i, j, rfl, rfl, ⟨hj, h9⟩, ?_⟩
        by_cases hp : 0 < j
        · rw [if_pos hp] at q
          show Q (.int (i.fdiv j)) H
          rw [Int.fdiv_eq_ediv_of_nonneg i (by omega)]
          exact q
        · rw [if_neg hp] at q
          exact q
    · exact (show False from post).elim
  · rename_i h1
    cases hx <;> cases hy <;> first | exact (show False from post).elim | exact (h1 _ _ rfl rfl).elim
theorem op_modD : OpR X (binaryOp .Mod) (R2of X.K E modD) := by
  intro pins s σ H x y v u Q I rx ry h
  obtain ⟨μ, st, dx, dy, hs, hx, hy, post⟩ := h
  unfold modD at post
  split at post
  · rename_i i j
    cases hx
    cases hy
    split at post
    · exact (show False from post).elim
    · rename_i hj
      rw [pure_run] at post
      have q := post_int hs post
      refine op_modN pins s σ H _ _ v u Q I rx ry ⟨i, j, rfl, rfl, hj, ?_⟩
      by_cases hp : 0 < j
      · rw [if_pos hp] at q
        show Q (.int (i.fmod j)) H
        rw [Int.fmod_eq_emod_of_nonneg i (by omega)]
        exact q
      · rw [if_neg hp] at q
        exact q
  · rename_i h1
    cases hx <;> cases hy <;> first | exact (show False from post).elim | exact (h1 _ _ rfl rfl).elim
theorem op_powD : OpR X (binaryOp .Pow) (R2of X.K E powD) := by
  intro pins s σ H x y v u Q I rx ry h
  obtain ⟨μ, st, dx, dy, hs, hx, hy, post⟩ := h
  unfold powD at post
  split at post
  · rename_i i j
    cases hx
    cases hy
    split at post
    · rename_i hc
      have hc := hc.ok
      rw [pure_run] at post
      exact op_pow pins s σ H _ _ v u Q I rx ry ⟨i, j, rfl, rfl, ⟨hc.1.1, by omega, by omega⟩, post_int hs post⟩
    · exact (show False from post).elim
  · rename_i h1
    cases hx <;> cases hy <;> first | exact (show False from post).elim | exact (h1 _ _ rfl rfl).elim
theorem un_negD : UnR X (unaryOp .USub) (R1of X.K E negD) := by
  intro pins s σ H x v Q I rx h
  obtain ⟨μ, st, dx, hs, hx, post⟩ := h
  unfold negD at post
  split at post
  · rename_i i
    cases hx
    rw [pure_run] at post
    exact un_neg pins s σ H _ v Q I rx ⟨i, rfl, post_int hs post⟩
  · rename_i h1
    cases hx <;> first | exact (show False from post).elim | exact (h1 _ rfl).elim
end

/-! ### comparisons -/
def dInts : List D → Option (List Int)
  | [] => some []
  | .int i :: r => (dInts r).map (i :: ·)
  | _ :: _ => none
theorem dInts_rep {K : PySem.W.Frag} {μ : List Addr} {H : Hp} : ∀ {ds : List D} {xs : List V} {ns : List Int}, dInts ds = some ns → RepL K μ H xs ds → xs = ns.map V.int
  | [], _, ns, e, .nil => by
    unfold dInts at e
    cases e
    rfl
  | .int i :: r, _, ns, e, .cons h t => by
    unfold dInts at e
    cases q : dInts r with
    | none => rw [q] at e; cases e
    | some ms =>
      rw [q] at e
      cases e
      cases h
      rw [dInts_rep q t]
      rfl
  | .non :: r, _, ns, e, _ => by unfold dInts at e; cases e
  | .bl _ :: r, _, ns, e, _ => by unfold dInts at e; cases e
  | .str _ :: r, _, ns, e, _ => by unfold dInts at e; cases e
  | .tup _ :: r, _, ns, e, _ => by unfold dInts at e; cases e
  | .flst _ :: r, _, ns, e, _ => by unfold dInts at e; cases e
  | .ptr _ :: r, _, ns, e, _ => by unfold dInts at e; cases e
def ltD : D → D → M D
  | .int i, .int j => pure (.bl (decide (i < j)))
  | .str a, .str b => pure (.bl (decide (a.cps.toList < b.cps.toList)))
  | .tup a, .tup b => match dInts a, dInts b with
    | some ns, some ms => pure (.bl (HT.lexLt ns ms))
    | _, _ => stuck
  | _, _ => stuck
def leD : D → D → M D
  | .int i, .int j => pure (.bl (decide (i ≤ j)))
  | .str a, .str b => pure (.bl (!decide (b.cps.toList < a.cps.toList)))
  | _, _ => stuck
def gtD : D → D → M D
  | .int i, .int j => pure (.bl (decide (j < i)))
  | _, _ => stuck
def geD : D → D → M D
  | .int i, .int j => pure (.bl (decide (j ≤ i)))
  | _, _ => stuck
def isnD (x : D) : M D := match x with
  | .non => pure (.bl true)
  | _ => pure (.bl false)
def notnD (x : D) : M D := match x with
  | .non => pure (.bl false)
  | _ => pure (.bl true)
def isbD : D → D → M D
  | .bl a, .bl b => pure (.bl (decide (a = b)))
  | _, _ => stuck
def notbD : D → D → M D
  | .bl a, .bl b => pure (.bl (!decide (a = b)))
  | _, _ => stuck
def mapO {α β : Type} (f : α → Option β) : List α → Option (List β)
  | [] => some []
  | a :: r => match f a, mapO f r with
    | some b, some bs => some (b :: bs)
    | _, _ => none
def toPy (s : S) : Nat → D → Option PyData
  | 0, _ => none
  | k + 1, d => match d with
    | .non => some .none
    | .bl b => some (.bool b)
    | .int i => some (.int i)
    | .str x => some (.str x)
    | .tup ds => (mapO (toPy s k) ds).map .tuple
    | .flst ds => (mapO (toPy s k) ds).map .list
    | .ptr n => match s[n]? with
      | some (.lst ds) => (mapO (toPy s k) ds).map .list
      | _ => none
theorem toPy_dpL {K : PySem.W.Frag} {μ : List Addr} {H : Hp} {s : S} {k : Nat} (ih : ∀ (d : D) (v : V) (p : PyData), toPy s k d = some p → Rep K μ H v d → Dp K H v p) :
    ∀ (ds : List D) (vs : List V) (ps : List PyData), mapO (toPy s k) ds = some ps → RepL K μ H vs ds → DpAll K H vs ps
  | [], _, ps, e, .nil => by
    unfold mapO at e
    cases e
    exact .nil
  | d :: ds, _, ps, e, .cons h t => by
    unfold mapO at e
    split at e
    · rename_i b bs e1 e2
      cases e
      exact .cons (ih d _ b e1 h) (toPy_dpL ih ds _ bs e2 t)
    · cases e
theorem toPy_dp {K : PySem.W.Frag} {μ : List Addr} {H : Hp} {s : S} (hs : SimS K μ H s) : ∀ (k : Nat) (d : D) (v : V) (p : PyData), toPy s k d = some p → Rep K μ H v d → Dp K H v p
  | 0, _, _, _, e, _ => by cases e
  | k + 1, d, v, p, e, r => by
    unfold toPy at e
    cases r with
    | non => cases e; exact .non
    | bl b => cases e; exact .bl b
    | int i => cases e; exact .int i
    | str x => cases e; exact .str x
    | @tup a xs ds ha la =>
      simp only [] at e
      cases q : mapO (toPy s k) ds with
      | none => rw [q] at e; cases e
      | some ps =>
        rw [q] at e
        cases e
        exact .tup ha (toPy_dpL (toPy_dp hs k) ds xs ps q la)
    | @flst a xs ds ha la =>
      simp only [] at e
      cases q : mapO (toPy s k) ds with
      | none => rw [q] at e; cases e
      | some ps =>
        rw [q] at e
        cases e
        exact .lst ha.sqL (toPy_dpL (toPy_dp hs k) ds xs ps q la)
    | @ptr a n ha =>
      simp only [] at e
      split at e
      · rename_i ds hd
        obtain ⟨xs, h1, la⟩ := cell_lst hs ha hd
        cases q : mapO (toPy s k) ds with
        | none => rw [q] at e; cases e
        | some ps =>
          rw [q] at e
          cases e
          exact .lst (SqL.of h1) (toPy_dpL (toPy_dp hs k) ds xs ps q la)
      · cases e
/-- == by data -/
def eqD (x y : D) : M D := fun s => match x, y with
  | .int i, .int j => .ok (.bl (decide (i = j))) s
  | .bl a, .bl b => .ok (.bl (decide (a = b))) s
  | .str a, .str b => .ok (.bl (decide (a = b))) s
  | .non, .non => .ok (.bl true) s
  | x, y => match toPy s 12 x, toPy s 12 y with
    | some p, some q => if (SeqAt.shaped p && SeqAt.shaped q) = true then .ok (.bl (PyData.eqv p q)) s else .stuck
    | _, _ => .stuck
def notD (m : D → D → M D) (x y : D) : M D := do
  match ← m x y with
  | .bl b => pure (.bl (!b))
  | _ => stuck
def neD : D → D → M D := notD eqD
section
variable {X : Cx} {E : XK}
theorem op_ltD (hu : X.A.units < cLine) : OpR X (compareOp .Lt) (R2of X.K E ltD) := by
  intro pins s σ H x y v u Q I rx ry h
  obtain ⟨μ, st, dx, dy, hs, hx, hy, post⟩ := h
  unfold ltD at post
  split at post
  · cases hx
    cases hy
    rw [pure_run] at post
    exact op_lt pins s σ H _ _ v u Q I rx ry ⟨_, _, rfl, rfl, post_bl hs post⟩
  · cases hx
    cases hy
    rw [pure_run] at post
    exact op_lt_str pins s σ H _ _ v u Q I rx ry ⟨_, _, rfl, rfl, post_bl hs post⟩
  · rename_i a b
    cases hx with
    | @tup p xs _ ha la =>
      cases hy with
      | @tup q ys _ hb lb =>
        cases e1 : dInts a with
        | none => rw [e1] at post; exact (show False from post).elim
        | some ns =>
          cases e2 : dInts b with
          | none => rw [e1, e2] at post; exact (show False from post).elim
          | some ms =>
            rw [e1, e2] at post
            rw [dInts_rep e1 la] at ha
            rw [dInts_rep e2 lb] at hb
            exact op_ltT hu pins s σ H _ _ v u Q I rx ry ⟨p, q, ns, ms, rfl, rfl, ha, hb, post_bl hs post⟩
  · rename_i h1 h2 h3
    cases hx <;> cases hy <;> first | exact (show False from post).elim | exact (h1 _ _ rfl rfl).elim | exact (h2 _ _ rfl rfl).elim | exact (h3 _ _ rfl rfl).elim
theorem op_leD : OpR X (compareOp .LtE) (R2of X.K E leD) := by
  intro pins s σ H x y v u Q I rx ry h
  obtain ⟨μ, st, dx, dy, hs, hx, hy, post⟩ := h
  unfold leD at post
  split at post
  · cases hx
    cases hy
    rw [pure_run] at post
    exact op_le pins s σ H _ _ v u Q I rx ry ⟨_, _, rfl, rfl, post_bl hs post⟩
  · cases hx
    cases hy
    rw [pure_run] at post
    exact op_le_str pins s σ H _ _ v u Q I rx ry ⟨_, _, rfl, rfl, post_bl hs post⟩
  · rename_i h1 h2
    cases hx <;> cases hy <;> first | exact (show False from post).elim | exact (h1 _ _ rfl rfl).elim | exact (h2 _ _ rfl rfl).elim
theorem op_gtD : OpR X (compareOp .Gt) (R2of X.K E gtD) := by
  intro pins s σ H x y v u Q I rx ry h
  obtain ⟨μ, st, dx, dy, hs, hx, hy, post⟩ := h
  unfold gtD at post
  split at post
  · cases hx
    cases hy
    rw [pure_run] at post
    exact op_gt pins s σ H _ _ v u Q I rx ry ⟨_, _, rfl, rfl, post_bl hs post⟩
  · rename_i h1
    cases hx <;> cases hy <;> first | exact (show False from post).elim | exact (h1 _ _ rfl rfl).elim
theorem op_geD : OpR X (compareOp .GtE) (R2of X.K E geD) := by
  intro pins s σ H x y v u Q I rx ry h
  obtain ⟨μ, st, dx, dy, hs, hx, hy, post⟩ := h
  unfold geD at post
  split at post
  · cases hx
    cases hy
    rw [pure_run] at post
    exact op_ge pins s σ H _ _ v u Q I rx ry ⟨_, _, rfl, rfl, post_bl hs post⟩
  · rename_i h1
    cases hx <;> cases hy <;> first | exact (show False from post).elim | exact (h1 _ _ rfl rfl).elim
theorem op_isbD : OpR X (compareOp .Is) (R2of X.K E isbD) := by
  intro pins s σ H x y v u Q I rx ry h
  obtain ⟨μ, st, dx, dy, hs, hx, hy, post⟩ := h
  unfold isbD at post
  split at post
  · cases hx
    cases hy
    rw [pure_run] at post
    exact op_isBl pins s σ H _ _ v u Q I rx ry ⟨_, _, rfl, rfl, post_bl hs post⟩
  · rename_i h1
    cases hx <;> cases hy <;> first | exact (show False from post).elim | exact (h1 _ _ rfl rfl).elim
theorem op_notbD : OpR X (compareOp .IsNot) (R2of X.K E notbD) := by
  intro pins s σ H x y v u Q I rx ry h
  obtain ⟨μ, st, dx, dy, hs, hx, hy, post⟩ := h
  unfold notbD at post
  split at post
  · cases hx
    cases hy
    rw [pure_run] at post
    exact op_notBl pins s σ H _ _ v u Q I rx ry ⟨_, _, rfl, rfl, post_bl hs post⟩
  · rename_i h1
    cases hx <;> cases hy <;> first | exact (show False from post).elim | exact (h1 _ _ rfl rfl).elim
/-- what == gives, as a fact of both sides -/
theorem eqD_core {K : PySem.W.Frag} {μ : List Addr} {H : Hp} {st : S} {dx dy : D} {x y : V} {r : D} {st' : S} (hs : SimS K μ H st) (hx : Rep K μ H x dx) (hy : Rep K μ H y dy) (e : eqD dx dy st = .ok r st') :
    st' = st ∧ ∃ b, r = .bl b ∧ ((scal x y = true ∧ b = decide (x = y)) ∨ ∃ p q, Dp K H x p ∧ Dp K H y q ∧ SeqAt.shaped p = true ∧ SeqAt.shaped q = true ∧ b = PyData.eqv p q) := by
  unfold eqD at e
  split at e
  · cases hx; cases hy; cases e
    exact ⟨rfl, _, rfl, .inl ⟨rfl, by simp⟩⟩
  · cases hx; cases hy; cases e
    exact ⟨rfl, _, rfl, .inl ⟨rfl, by simp⟩⟩
  · cases hx; cases hy; cases e
    exact ⟨rfl, _, rfl, .inl ⟨rfl, by simp⟩⟩
  · cases hx; cases hy; cases e
    exact ⟨rfl, _, rfl, .inl ⟨rfl, by simp⟩⟩
  · split at e
    · rename_i p q e1 e2
      split at e
      · rename_i hsh
        rw [Bool.and_eq_true] at hsh
        cases e
        exact ⟨rfl, _, rfl, .inr ⟨p, q, toPy_dp hs 12 _ _ p e1 hx, toPy_dp hs 12 _ _ q e2 hy, hsh.1, hsh.2, rfl⟩⟩
      · cases e
    · cases e
theorem eqD_noexc {dx dy : D} {st st' : S} {c : Str} (e : eqD dx dy st = .exc c st') : False := by
  unfold eqD at e
  repeat (first | cases e | split at e)
theorem op_eqDD (hu : X.A.units + 64 < cLine) : OpR X (compareOp .Eq) (R2of X.K E eqD) := by
  intro pins s σ H x y v u Q I rx ry h
  obtain ⟨μ, st, dx, dy, hs, hx, hy, post⟩ := h
  cases e : eqD dx dy st with
  | stuck => rw [e] at post; exact (show False from post).elim
  | exc c s' => exact (eqD_noexc e).elim
  | ok r s' =>
    rw [e] at post
    obtain ⟨rfl, b, rfl, ⟨h1, rfl⟩ | ⟨p, q, d1, d2, s1, s2, rfl⟩⟩ := eqD_core hs hx hy e
    · exact op_eq pins s σ H _ _ v u Q I rx ry ⟨h1, post_bl hs post⟩
    · exact op_eqD hu pins s σ H _ _ v u Q I rx ry ⟨p, q, d1, d2, s1, s2, post_bl hs post⟩
theorem op_neDD (hu : X.A.units + 64 < cLine) : OpR X (compareOp .NotEq) (R2of X.K E neD) := by
  intro pins s σ H x y v u Q I rx ry h
  obtain ⟨μ, st, dx, dy, hs, hx, hy, post⟩ := h
  unfold neD notD at post
  rw [bind_run] at post
  cases e : eqD dx dy st with
  | stuck => rw [e] at post; exact (show False from post).elim
  | exc c s' => exact (eqD_noexc e).elim
  | ok r s' =>
    rw [e] at post
    obtain ⟨rfl, b, rfl, ⟨h1, rfl⟩ | ⟨p, q, d1, d2, s1, s2, rfl⟩⟩ := eqD_core hs hx hy e
    · exact op_ne pins s σ H _ _ v u Q I rx ry ⟨h1, post_bl hs post⟩
    · exact op_neD hu pins s σ H _ _ v u Q I rx ry ⟨p, q, d1, d2, s1, s2, post_bl hs post⟩
end
end PL

/-! PL3: expressions. -/
namespace PL
open PySem PySem.Spec PyProof.Rows L2

/-! ### combinators -/
def varM (i : Nat) (env : Env) : M D := match env[i]? with
  | some (some d) => pure d
  | _ => stuck
def cM (d : D) (_ : Env) : M D := pure d
def unM (f : D → M D) (ma : Env → M D) (env : Env) : M D := ma env >>= f
def binM (f : D → D → M D) (ma mb : Env → M D) (env : Env) : M D := ma env >>= fun x => mb env >>= fun y => f x y
def asB (m : M D) : M Bool := m >>= fun d => match d with
  | .bl b => pure b
  | _ => stuck
def tB (m : Env → M D) (env : Env) : M Bool := asB (m env)
def vB (m : Env → M Bool) (env : Env) : M D := m env >>= fun b => pure (.bl b)
def chainM (f g : D → D → M D) (ma mb mc : Env → M D) (env : Env) : M D :=
  ma env >>= fun x => mb env >>= fun y => f x y >>= fun r => match r with
    | .bl true => mc env >>= fun z => g y z
    | .bl false => pure (.bl false)
    | _ => stuck
def truD : D → M Bool
  | .non => pure false
  | .bl b => pure b
  | .int i => pure (i != 0)
  | .str x => if x.length ≤ 100000 then pure ((x.length : Int) != 0) else stuck
  | .tup ds => pure (!ds.isEmpty)
  | .flst ds => pure (!ds.isEmpty)
  | .ptr n => fun s => match s[n]? with
    | some (.lst ds) => .ok (!ds.isEmpty) s
    | some (.dK kvs) => .ok (!kvs.isEmpty) s
    | _ => .stuck
def truM (m : Env → M D) (env : Env) : M Bool := m env >>= truD
def andM (ma mb : Env → M D) (env : Env) : M D := ma env >>= fun x => truD x >>= fun k => if k then mb env else pure x
def orM (ma mb : Env → M D) (env : Env) : M D := ma env >>= fun x => truD x >>= fun k => if k then pure x else mb env
def notM (ma : Env → M D) (env : Env) : M D := ma env >>= fun x => truD x >>= fun k => pure (.bl (!k))
def andT (ma mb : Env → M Bool) (env : Env) : M Bool := ma env >>= fun k => if k then mb env else pure false
def orT (ma mb : Env → M Bool) (env : Env) : M Bool := ma env >>= fun k => if k then pure true else mb env
def notT (ma : Env → M Bool) (env : Env) : M Bool := ma env >>= fun k => pure (!k)
def ifM (mc : Env → M Bool) (ma mb : Env → M D) (env : Env) : M D := mc env >>= fun k => if k then ma env else mb env
def nilA (_ : Env) : M (List D) := pure []
def consA (ma : Env → M D) (mr : Env → M (List D)) (env : Env) : M (List D) := ma env >>= fun d => mr env >>= fun ds => pure (d :: ds)
def tupM (ma : Env → M (List D)) (env : Env) : M D := ma env >>= fun ds => if ds.length ≤ 100000 then pure (.tup ds) else stuck
def lstM (ma : Env → M (List D)) (env : Env) : M D := ma env >>= fun ds => if ds.length ≤ 100000 then allocC (.lst ds) else stuck
def callM (f : List D → M D) (ma : Env → M (List D)) (env : Env) : M D := ma env >>= f

theorem lmap_fst {κ : Type} [DecidableEq κ] {K : PySem.W.Frag} {μ : List Addr} {H : Hp} {k : κ} : ∀ {xs : List (κ × V)} {ds : List (κ × D)}, RepK K μ H xs ds → ∀ {d : D}, (ds.find? fun kv => decide (kv.1 = k)).map (·.2) = some d → ∃ v, valV xs k = some v ∧ Rep K μ H v d
  | [], [], _, d, e => by simp at e
  | [], q :: ds, h, d, e => by
    have := h.1
    simp at this
  | p :: xs, [], h, d, e => by
    have := h.1
    simp at this
  | p :: xs, q :: ds, ⟨h1, h2⟩, d, e => by
    rw [List.map_cons, List.map_cons] at h1
    have e1 : p.1 = q.1 := (List.cons.inj h1).1
    have e2 := (List.cons.inj h1).2
    rw [List.map_cons, List.map_cons] at h2
    cases h2 with
    | cons r t =>
      by_cases hk : q.1 = k
      · rw [List.find?_cons] at e
        simp only [hk, decide_true, Option.map_some, Option.some.injEq] at e
        subst e
        exact ⟨p.2, valV_pos (e1.trans hk), r⟩
      · rw [List.find?_cons] at e
        simp only [hk, decide_false] at e
        obtain ⟨v, hv, hr⟩ := lmap_fst ⟨e2, t⟩ e
        exact ⟨v, by rw [valV_neg (by rw [e1]; exact hk)]; exact hv, hr⟩
theorem lmap_none {κ : Type} [DecidableEq κ] {K : PySem.W.Frag} {μ : List Addr} {H : Hp} {k : κ} : ∀ {xs : List (κ × V)} {ds : List (κ × D)}, RepK K μ H xs ds → (ds.find? fun kv => decide (kv.1 = k)).map (·.2) = none → valV xs k = none
  | [], [], _, e => rfl
  | [], q :: ds, h, e => by
    have := h.1
    simp at this
  | p :: xs, [], h, e => by
    have := h.1
    simp at this
  | p :: xs, q :: ds, ⟨h1, h2⟩, e => by
    rw [List.map_cons, List.map_cons] at h1
    have e1 : p.1 = q.1 := (List.cons.inj h1).1
    have e2 := (List.cons.inj h1).2
    rw [List.map_cons, List.map_cons] at h2
    cases h2 with
    | cons r t =>
      by_cases hk : q.1 = k
      · rw [List.find?_cons] at e
        simp [hk] at e
      · rw [List.find?_cons] at e
        simp only [hk, decide_false] at e
        rw [valV_neg (by rw [e1]; exact hk)]
        exact lmap_none ⟨e2, t⟩ e
def valD {κ : Type} [DecidableEq κ] (kvs : List (κ × D)) (k : κ) : Option D := (kvs.find? fun kv => decide (kv.1 = k)).map (·.2)
def dKey : D → Option Key
  | .int i => some (.inl i)
  | .str x => some (.inr x)
  | _ => none
theorem dKey_rep {K : PySem.W.Frag} {μ : List Addr} {H : Hp} {d : D} {v : V} {k : Key} (e : dKey d = some k) (r : Rep K μ H v d) : v = kV k := by
  cases r <;> first | (cases e; rfl) | cases e
theorem cell_dK {K : PySem.W.Frag} {μ : List Addr} {H : Hp} {s : S} {n : Nat} {a : Addr} {ds : List (Key × D)} (hs : SimS K μ H s) (ha : μ[n]? = some a) (e : s[n]? = some (.dK ds)) : ∃ xs, H a = some (.dK xs) ∧ RepK K μ H xs ds := by
  obtain ⟨b, hb, hc⟩ := hs.cell n _ e
  rw [ha] at hb
  cases hb
  exact hc
def ixS (ds : List D) (y : D) : M D := match y with
  | .int i => (match atI ds i with
    | some d => pure d
    | none => stuck)
  | _ => stuck
def ixK (kvs : List (Key × D)) (y : D) : M D := match dKey y with
  | some k => (match valD kvs k with
    | some d => pure d
    | none => stuck)
  | none => stuck
/-- x[y] -/
def ixD (x y : D) : M D := match x with
  | .tup ds => ixS ds y
  | .flst ds => ixS ds y
  | .str z => (match y with
    | .int i => if z.length ≤ 100000 then (match atI z.cps.toList i with
      | some c => pure (.str ⟨#[c]⟩)
      | none => stuck) else stuck
    | _ => stuck)
  | .ptr n => fun s => match s[n]? with
    | some (.lst ds) => ixS ds y s
    | some (.dK kvs) => ixK kvs y s
    | _ => .stuck
  | _ => stuck
theorem atI_rep {K : PySem.W.Frag} {μ : List Addr} {H : Hp} {xs : List V} {ds : List D} {i : Int} {d : D} (r : RepL K μ H xs ds) (e : atI ds i = some d) : ∃ v, atI xs i = some v ∧ Rep K μ H v d := by
  unfold atI at *
  rw [r.length]
  cases q : ixN ds.length i with
  | none => rw [q] at e; cases e
  | some j =>
    rw [q] at e
    exact r.get e
theorem PE.or {X : Cx} {e : Expr} {t t' : TE} (h : PE X e t) (h' : PE X e t') : PE X e (fun σ H Q => t σ H Q ∨ t' σ H Q) :=
  ⟨fun pins s σ H Q I q => q.elim (fun q => h.run pins s σ H Q I q) (fun q => h'.run pins s σ H Q I q)⟩
section
variable {X : Cx} {E : XK} {a b c e : Expr} {ma mb mc : Env → M D} {ta tb tc : Env → M Bool} {pos : Pos} {f g : D → D → M D}
/-- both sides of a two-place reading -/
theorem te_bin {r : R2} {K : PySem.W.Frag} (hr : ∀ x y H Q, R2of K E f x y H Q → r x y H Q) : ∀ σ H Q, TEof K E (binM f ma mb) σ H Q → tOp r (TEof K E ma) (TEof K E mb) σ H Q := by
  rintro σ H Q ⟨μ, env, s, hv, hs, post⟩
  refine ⟨μ, env, s, hv, hs, (Post.bind post).mono fun x s1 μ1 H1 g1 hs1 p1 v hx => ?_⟩
  refine ⟨μ1, env, s1, hv.grow g1, hs1, (Post.bind p1).mono fun y s2 μ2 H2 g2 hs2 p2 u hy => ?_⟩
  exact hr _ _ _ _ ⟨μ2, s2, x, y, hs2, Rep.grow g2 x v hx, hy, p2⟩
theorem te_un {r : V → Hp → VK → Prop} {K : PySem.W.Frag} {h : D → M D} (hr : ∀ x H Q, R1of K E h x H Q → r x H Q) : ∀ σ H Q, TEof K E (unM h ma) σ H Q → tUn r (TEof K E ma) σ H Q := by
  rintro σ H Q ⟨μ, env, s, hv, hs, post⟩
  refine ⟨μ, env, s, hv, hs, (Post.bind post).mono fun x s1 μ1 H1 g1 hs1 p1 v hx => ?_⟩
  exact hr _ _ _ ⟨μ1, s1, x, hs1, hx, p1⟩

theorem se_var (i : Nat) {x : Str} (hN : X.N[i]? = some x := by rfl) (hv : Vis X.env.scope x := by first | exact Or.inl rfl | exact Or.inr (Or.inl rfl) | exact Or.inr (Or.inr rfl)) (hd : (x == ("__debug__" : Str)) = false := by decide)
    (hcd : (x == ("__classdict__" : Str)) = false := by decide) : SE X E (.Name x pos) (varM i) := PE.imp (pe_var hN hv hd hcd) (by
  rintro σ H Q ⟨μ, env, s, hv, hs, post⟩
  unfold varM at post
  cases e : env[i]? with
  | none => rw [e] at post; exact (show False from post).elim
  | some o =>
    cases o with
    | none => rw [e] at post; exact (show False from post).elim
    | some d =>
      rw [e] at post
      obtain ⟨v, h1, h2⟩ := hv.val i d e
      exact ⟨v, h1, post_val hs post h2⟩)
theorem te_c {K : PySem.W.Frag} {d : D} {v : V} (hr : ∀ μ H, Rep K μ H v d) : ∀ σ H Q, TEof K E (cM d) σ H Q → tC v σ H Q := by
  rintro σ H Q ⟨μ, env, s, hv, hs, post⟩
  exact post_val hs post (hr μ H)
theorem se_int {i j} : SE X E (.Constant (.int i) j pos) (cM (.int i)) := PE.imp pe_int (te_c fun _ _ => .int i)
theorem se_bl {k j} : SE X E (.Constant (.bool k) j pos) (cM (.bl k)) := PE.imp pe_bl (te_c fun _ _ => .bl k)
theorem se_non {j} : SE X E (.Constant .none j pos) (cM .non) := PE.imp pe_non (te_c fun _ _ => .non)
theorem se_str {x j} : SE X E (.Constant (.str x) j pos) (cM (.str x)) := PE.imp pe_str (te_c fun _ _ => .str x)
theorem se_glob {x : Str} {d : D} {v : V} {u : Value} (hg : Gl X x) (hm : X.mg x = some u) (r : RelV v u) (hr : ∀ μ H, Rep X.K μ H v d) (hd : (x == ("__debug__" : Str)) = false := by decide) : SE X E (.Name x pos) (cM d) := PE.imp (pe_glob hg hm r hd) (te_c hr)

theorem se_bin {op : Operator} (ho : OpR X (binaryOp op) (R2of X.K E f)) (ha : SE X E a ma) (hb : SE X E b mb) : SE X E (.BinOp a op b pos) (binM f ma mb) := PE.imp (pe_op ho ha hb) (te_bin fun _ _ _ _ h => h)
theorem se_add (ha : SE X E a ma) (hb : SE X E b mb) : SE X E (.BinOp a .Add b pos) (binM addD ma mb) := se_bin op_addD ha hb
theorem se_sub (ha : SE X E a ma) (hb : SE X E b mb) : SE X E (.BinOp a .Sub b pos) (binM subD ma mb) := se_bin op_subD ha hb
theorem se_mul (ha : SE X E a ma) (hb : SE X E b mb) : SE X E (.BinOp a .Mult b pos) (binM mulD ma mb) := se_bin op_mulD ha hb
theorem se_fdiv (ha : SE X E a ma) (hb : SE X E b mb) : SE X E (.BinOp a .FloorDiv b pos) (binM fdivD ma mb) := se_bin op_fdivD ha hb
theorem se_mod (ha : SE X E a ma) (hb : SE X E b mb) : SE X E (.BinOp a .Mod b pos) (binM modD ma mb) := se_bin op_modD ha hb
theorem se_pow (ha : SE X E a ma) (hb : SE X E b mb) : SE X E (.BinOp a .Pow b pos) (binM powD ma mb) := se_bin op_powD ha hb
theorem se_neg (ha : SE X E a ma) : SE X E (.UnaryOp .USub a pos) (unM negD ma) := PE.imp (pe_un un_negD ha) (te_un fun _ _ _ h => h)
theorem se_cmp {op : CmpOp} (ho : OpR X (compareOp op) (R2of X.K E f)) (ha : SE X E a ma) (hb : SE X E b mb) (hm : behindInMarks op b = false) : SE X E (.Compare a [op] [b] pos) (binM f ma mb) := PE.imp (pe_cmpR ho ha hb hm) (te_bin fun _ _ _ _ h => h)
/-- a bool as a test -/
theorem tt_of {t : TE} {K : PySem.W.Frag} {m : Env → M D} (ht : ∀ σ H Q, TEof K E m σ H Q → t σ H Q) : ∀ σ H Q, TTof K E (tB m) σ H Q → tTest t σ H Q := by
  rintro σ H Q ⟨μ, env, s, hv, hs, post⟩
  refine ht _ _ _ ⟨μ, env, s, hv, hs, (Post.bind post).mono fun x s1 μ1 H1 g1 hs1 p1 v hx => ?_⟩
  cases hx with
  | bl k => exact ⟨k, rfl, Post.now p1 hs1⟩
  | _ => exact (show False from p1).elim
theorem st_cmp {op : CmpOp} (ho : OpR X (compareOp op) (R2of X.K E f)) (ha : SE X E a ma) (hb : SE X E b mb) (hm : behindInMarks op b = false) : ST X E (.Compare a [op] [b] pos) (tB (binM f ma mb)) := PT.imp (pt_cmpR ho ha hb hm) (tt_of (te_bin fun _ _ _ _ h => h))
theorem te_chain {K : PySem.W.Frag} : ∀ σ H Q, TEof K E (chainM f g ma mb mc) σ H Q → tChain (R2of K E f) (R2of K E g) (TEof K E ma) (TEof K E mb) (TEof K E mc) σ H Q := by
  rintro σ H Q ⟨μ, env, s, hv, hs, post⟩
  refine ⟨μ, env, s, hv, hs, (Post.bind post).mono fun x s1 μ1 H1 g1 hs1 p1 v hx => ?_⟩
  refine ⟨μ1, env, s1, hv.grow g1, hs1, (Post.bind p1).mono fun y s2 μ2 H2 g2 hs2 p2 u hy => ?_⟩
  refine ⟨μ2, s2, x, y, hs2, Rep.grow g2 x v hx, hy, (Post.bind p2).mono fun r s3 μ3 H3 g3 hs3 p3 w hr => ?_⟩
  cases hr with
  | bl k =>
    refine ⟨k, rfl, ?_⟩
    cases k with
    | false => exact post_bl hs3 p3
    | true =>
      refine ⟨μ3, env, s3, (hv.grow (g1.trans (g2.trans g3))), hs3, (Post.bind p3).mono fun z s4 μ4 H4 g4 hs4 p4 w' hz => ?_⟩
      exact ⟨μ4, s4, y, z, hs4, Rep.grow (g3.trans g4) y u hy, hz, p4⟩
  | _ => exact (show False from p3).elim
theorem se_chain {op op' : CmpOp} (ho : OpR X (compareOp op) (R2of X.K E f)) (ho' : OpR X (compareOp op') (R2of X.K E g)) (ha : SE X E a ma) (hb : SE X E b mb) (hc : SE X E c mc)
    (hm : lastMarks [op, op'] [b, c] = false := by with_unfolding_all rfl) : SE X E (.Compare a [op, op'] [b, c] pos) (chainM f g ma mb mc) := PE.imp (pe_chain ho ho' ha hb hc hm) te_chain
theorem st_chain {op op' : CmpOp} (ho : OpR X (compareOp op) (R2of X.K E f)) (ho' : OpR X (compareOp op') (R2of X.K E g)) (ha : SE X E a ma) (hb : SE X E b mb) (hc : SE X E c mc)
    (hm : lastMarks [op, op'] [b, c] = false := by with_unfolding_all rfl) : ST X E (.Compare a [op, op'] [b, c] pos) (tB (chainM f g ma mb mc)) := PT.imp (pt_chain ho ho' ha hb hc hm) (tt_of te_chain)
theorem te_isN {K : PySem.W.Frag} : ∀ σ H Q, TEof K E (unM isnD ma) σ H Q → tIsN (TEof K E ma) σ H Q := by
  rintro σ H Q ⟨μ, env, s, hv, hs, post⟩
  refine ⟨μ, env, s, hv, hs, (Post.bind post).mono fun x s1 μ1 H1 g1 hs1 p1 v hx => ?_⟩
  cases hx <;> exact post_bl hs1 p1
theorem te_notN {K : PySem.W.Frag} : ∀ σ H Q, TEof K E (unM notnD ma) σ H Q → tNotN (TEof K E ma) σ H Q := by
  rintro σ H Q ⟨μ, env, s, hv, hs, post⟩
  refine ⟨μ, env, s, hv, hs, (Post.bind post).mono fun x s1 μ1 H1 g1 hs1 p1 v hx => ?_⟩
  cases hx <;> exact post_bl hs1 p1
theorem se_isN {j pos'} (ha : SE X E a ma) : SE X E (.Compare a [.Is] [.Constant .none j pos'] pos) (unM isnD ma) := PE.imp (pe_cmp (pc_isN ha) rfl) te_isN
theorem se_notN {j pos'} (ha : SE X E a ma) : SE X E (.Compare a [.IsNot] [.Constant .none j pos'] pos) (unM notnD ma) := PE.imp (pe_cmp (pc_notN ha) rfl) te_notN
theorem tB_of {t : TE} {K : PySem.W.Frag} {m : Env → M D} (ht : ∀ σ H Q, TEof K E m σ H Q → t σ H Q) : ∀ σ H Q, TTof K E (tB m) σ H Q → L2.tB t σ H Q := by
  rintro σ H Q ⟨μ, env, s, hv, hs, post⟩
  refine ht _ _ _ ⟨μ, env, s, hv, hs, (Post.bind post).mono fun x s1 μ1 H1 g1 hs1 p1 v hx => ?_⟩
  cases hx with
  | bl k => exact ⟨k, rfl, Post.now p1 hs1⟩
  | _ => exact (show False from p1).elim
theorem st_isN {j pos'} (ha : SE X E a ma) : ST X E (.Compare a [.Is] [.Constant .none j pos'] pos) (tB (unM isnD ma)) := PT.imp (pt_cmp (pc_isN ha) rfl) (tB_of te_isN)
theorem st_notN {j pos'} (ha : SE X E a ma) : ST X E (.Compare a [.IsNot] [.Constant .none j pos'] pos) (tB (unM notnD ma)) := PT.imp (pt_cmp (pc_notN ha) rfl) (tB_of te_notN)

/-! ### truth -/
theorem tru_of {K : PySem.W.Frag} {μ : List Addr} {H : Hp} {s : S} {d : D} {v : V} {q : Bool → S → List Addr → Hp → Prop} (hs : SimS K μ H s) (r : Rep K μ H v d) (post : Post K E μ H (truD d s) q) : ∃ k, TruV K v H k ∧ q k s μ H := by
  unfold truD at post
  cases r with
  | non => exact ⟨false, rfl, Post.now post hs⟩
  | bl b => exact ⟨b, rfl, Post.now post hs⟩
  | int i => exact ⟨_, rfl, Post.now post hs⟩
  | str x =>
    simp only [] at post
    split at post
    · rename_i hl
      exact ⟨_, ⟨sz_ok hl, rfl⟩, Post.now post hs⟩
    · exact (show False from post).elim
  | @tup p xs ds ha la =>
    refine ⟨_, .inr (.inl ⟨xs, ha, rfl⟩), ?_⟩
    have e : ds.isEmpty = xs.isEmpty := by cases la <;> rfl
    rw [← e]
    exact Post.now post hs
  | @flst p xs ds ha la =>
    refine ⟨_, .inl ⟨xs, ha.sqL, rfl⟩, ?_⟩
    have e : ds.isEmpty = xs.isEmpty := by cases la <;> rfl
    rw [← e]
    exact Post.now post hs
  | @ptr p n ha =>
    simp only [] at post
    split at post
    · rename_i ds hd
      obtain ⟨xs, h1, la⟩ := cell_lst hs ha hd
      refine ⟨_, .inl ⟨xs, SqL.of h1, rfl⟩, ?_⟩
      have e : ds.isEmpty = xs.isEmpty := by cases la <;> rfl
      rw [← e]
      exact Post.now post hs
    · rename_i kvs hd
      obtain ⟨xs, h1, h2⟩ := cell_dK hs ha hd
      refine ⟨_, .inr (.inr ⟨xs, h1, rfl⟩), ?_⟩
      have e : kvs.isEmpty = xs.isEmpty := by
        have := congrArg List.length h2.1
        rw [List.length_map, List.length_map] at this
        cases kvs <;> cases xs <;> simp at this <;> rfl
      rw [← e]
      exact Post.now post hs
    · exact (show False from post).elim
theorem st_truth (ha : SE X E a ma) (he : ∀ whole, isTrue a X.env whole = (do let v ← whole; standAt a.pos; holding [v] (truthy v)) := by intro _; rfl) : ST X E a (truM ma) := PT.imp (pt_truth ha he) (by
  rintro σ H Q ⟨μ, env, s, hv, hs, post⟩
  refine ⟨μ, env, s, hv, hs, (Post.bind post).mono fun x s1 μ1 H1 g1 hs1 p1 v hx => ?_⟩
  exact tru_of hs1 hx p1)
theorem se_one {op} (h : SE X E a ma) : SE X E (.BoolOp op [a] pos) ma := pe_one h
theorem se_and {rest : List Expr} (ha : SE X E a ma) (hb : SE X E (.BoolOp .And (b :: rest) pos) mb) : SE X E (.BoolOp .And (a :: b :: rest) pos) (andM ma mb) := PE.imp (pe_andT ha hb) (by
  rintro σ H Q ⟨μ, env, s, hv, hs, post⟩
  refine ⟨μ, env, s, hv, hs, (Post.bind post).mono fun x s1 μ1 H1 g1 hs1 p1 v hx => ?_⟩
  obtain ⟨k, h1, h2⟩ := tru_of hs1 hx (Post.bind p1)
  refine ⟨k, h1, ?_⟩
  cases k with
  | true => exact ⟨μ1, env, s1, hv.grow g1, hs1, h2⟩
  | false => exact post_val hs1 h2 hx)
theorem se_or {rest : List Expr} (ha : SE X E a ma) (hb : SE X E (.BoolOp .Or (b :: rest) pos) mb) : SE X E (.BoolOp .Or (a :: b :: rest) pos) (orM ma mb) := PE.imp (pe_orT ha hb) (by
  rintro σ H Q ⟨μ, env, s, hv, hs, post⟩
  refine ⟨μ, env, s, hv, hs, (Post.bind post).mono fun x s1 μ1 H1 g1 hs1 p1 v hx => ?_⟩
  obtain ⟨k, h1, h2⟩ := tru_of hs1 hx (Post.bind p1)
  refine ⟨k, h1, ?_⟩
  cases k with
  | true => exact post_val hs1 h2 hx
  | false => exact ⟨μ1, env, s1, hv.grow g1, hs1, h2⟩)
theorem se_not (ha : SE X E a ma) : SE X E (.UnaryOp .Not a pos) (notM ma) := PE.imp (pe_notT ha) (by
  rintro σ H Q ⟨μ, env, s, hv, hs, post⟩
  refine ⟨μ, env, s, hv, hs, (Post.bind post).mono fun x s1 μ1 H1 g1 hs1 p1 v hx => ?_⟩
  obtain ⟨k, h1, h2⟩ := tru_of hs1 hx (Post.bind p1)
  exact ⟨k, h1, post_bl hs1 h2⟩)
theorem sw_and1 (ha : ST X E a ta) : SW X E (.BoolOp .And [a] pos) ta := pw_and1 ha
theorem sw_or1 (ha : ST X E a ta) : SW X E (.BoolOp .Or [a] pos) ta := pw_or1 ha
theorem sw_and {rest : List Expr} (ha : ST X E a ta) (hb : SW X E (.BoolOp .And (b :: rest) pos) tb) : SW X E (.BoolOp .And (a :: b :: rest) pos) (andT ta tb) := PW.imp (pw_and ha hb) (by
  rintro σ H Q ⟨μ, env, s, hv, hs, post⟩
  refine ⟨μ, env, s, hv, hs, (Post.bind post).mono fun x s1 μ1 H1 g1 hs1 p1 => ?_⟩
  show if x = true then _ else _
  cases x with
  | true => exact ⟨μ1, env, s1, hv.grow g1, hs1, p1⟩
  | false => exact Post.now p1 hs1)
theorem sw_or {rest : List Expr} (ha : ST X E a ta) (hb : SW X E (.BoolOp .Or (b :: rest) pos) tb) : SW X E (.BoolOp .Or (a :: b :: rest) pos) (orT ta tb) := PW.imp (pw_or ha hb) (by
  rintro σ H Q ⟨μ, env, s, hv, hs, post⟩
  refine ⟨μ, env, s, hv, hs, (Post.bind post).mono fun x s1 μ1 H1 g1 hs1 p1 => ?_⟩
  show if x = true then _ else _
  cases x with
  | true => exact Post.now p1 hs1
  | false => exact ⟨μ1, env, s1, hv.grow g1, hs1, p1⟩)
theorem st_w (h : SW X E a ta) : ST X E a ta := PW.pt h
theorem st_not (ha : ST X E a ta) : ST X E (.UnaryOp .Not a pos) (notT ta) := PT.imp (pt_not ha) (by
  rintro σ H Q ⟨μ, env, s, hv, hs, post⟩
  refine ⟨μ, env, s, hv, hs, (Post.bind post).mono fun x s1 μ1 H1 g1 hs1 p1 => ?_⟩
  have q : okB Q (!x) s1 μ1 H1 := Post.now p1 hs1
  exact q)
theorem se_if (hc : ST X E c tc) (ha : SE X E a ma) (hb : SE X E b mb) : SE X E (.IfExp c a b pos) (ifM tc ma mb) := PE.imp (pe_ifExp hc ha hb) (by
  rintro σ H Q ⟨μ, env, s, hv, hs, post⟩
  refine ⟨μ, env, s, hv, hs, (Post.bind post).mono fun x s1 μ1 H1 g1 hs1 p1 => ?_⟩
  show if x = true then _ else _
  cases x with
  | true => exact ⟨μ1, env, s1, hv.grow g1, hs1, p1⟩
  | false => exact ⟨μ1, env, s1, hv.grow g1, hs1, p1⟩)

/-! ### arguments, displays -/
variable {es : List Expr} {mr : Env → M (List D)}
theorem sa_nil : SA X E [] nilA := PA.imp pa_nil (by
  rintro σ H Q ⟨μ, env, s, hv, hs, post⟩
  exact Post.now post hs [] .nil)
theorem sa_cons (ha : SE X E a ma) (hr : SA X E es mr) (hs : starEach (a :: es) X.env = (false, eval a X.env) :: starEach es X.env := by rfl) : SA X E (a :: es) (consA ma mr) := PA.imp (pa_cons ha hr hs) (by
  rintro σ H Q ⟨μ, env, s, hv, hs, post⟩
  refine ⟨μ, env, s, hv, hs, (Post.bind post).mono fun x s1 μ1 H1 g1 hs1 p1 v hx => ?_⟩
  refine ⟨μ1, env, s1, hv.grow g1, hs1, (Post.bind p1).mono fun ds s2 μ2 H2 g2 hs2 p2 vs hl => ?_⟩
  exact Post.now p2 hs2 (v :: vs) (.cons (Rep.grow g2 x v hx) hl))
theorem se_tup {k} (h : SA X E es mr) : SE X E (.Tuple es k pos) (tupM mr) := PE.imp (pe_tup h) (by
  rintro σ H Q ⟨μ, env, s, hv, hs, post⟩
  refine ⟨μ, env, s, hv, hs, (Post.bind post).mono fun ds s1 μ1 H1 g1 hs1 p1 vs hl => ?_⟩
  split at p1
  · rename_i hz
    exact ⟨by rw [hl.length]; exact sz_ok hz, post_tup hs1 hl p1⟩
  · exact (show False from p1).elim)
theorem se_lst (h : SA X E es mr) : SE X E (.List es pos) (lstM mr) := PE.imp (pe_lst h) (by
  rintro σ H Q ⟨μ, env, s, hv, hs, post⟩
  refine ⟨μ, env, s, hv, hs, (Post.bind post).mono fun ds s1 μ1 H1 g1 hs1 p1 vs hl => ?_⟩
  split at p1
  · rename_i hz
    exact ⟨by rw [hl.length]; exact sz_ok hz, post_alloc hs1 hl p1⟩
  · exact (show False from p1).elim)

/-! ### subscripts -/
theorem se_ix (hu : X.A.units + 1 < cLine) (ha : SE X E a ma) (hb : SE X E b mb) (h : PlainIx b) : SE X E (.Subscript a b pos) (binM ixD ma mb) := PE.imp (PE.or (pe_ix ix_seq ha hb h) (pe_dget hu ha hb h)) (by
  rintro σ H Q ⟨μ, env, s, hv, hs, post⟩
  by_cases hd : ∃ n s1 y s2 kvs, ma env s = .ok (.ptr n) s1 ∧ mb env s1 = .ok y s2 ∧ s2[n]? = some (Cell.dK kvs)
  · right
    obtain ⟨n, s1, y, s2, kvs, e1, e2, e4⟩ := hd
    have e3 : binM ixD ma mb env s = ixD (.ptr n) y s2 := (bind_ok e1).trans (bind_ok e2)
    rw [e3] at post
    refine ⟨μ, env, s, hv, hs, ?_⟩
    rw [e1]
    intro μ1 H1 g1 hs1 v hx
    cases hx with
    | ptr hn =>
      refine ⟨μ1, env, s1, hv.grow g1, hs1, ?_⟩
      rw [e2]
      intro μ2 H2 g2 hs2 u hy
      obtain ⟨xs, h1, h2⟩ := cell_dK hs2 (g2.at hn) e4
      unfold ixD ixK at post
      simp only [e4] at post
      cases ek : dKey y with
      | none => rw [ek] at post; exact (show False from post).elim
      | some k =>
        rw [ek] at post
        cases ev : valD kvs k with
        | none => simp only [ev] at post; exact (show False from post).elim
        | some d =>
          simp only [ev] at post
          obtain ⟨w, hw, rw'⟩ := lmap_fst h2 ev
          have eu := dKey_rep ek hy
          subst eu
          exact ⟨_, w, rfl, by rw [← hw]; exact DGet.k h1, post_val hs2 (Post.later (g1.trans g2) post) rw'⟩
  · left
    have e0 : binM ixD ma mb env s = (ma env >>= fun x => mb env >>= fun y => ixD x y) s := rfl
    rw [e0] at post
    refine ⟨μ, env, s, hv, hs, ?_⟩
    cases e1 : ma env s with
    | stuck => rw [bind_run, e1] at post; exact (show False from post).elim
    | exc c s1 => rw [bind_exc e1] at post; exact post
    | ok x s1 =>
      rw [bind_ok e1] at post
      intro μ1 H1 g1 hs1 v hx
      refine ⟨μ1, env, s1, hv.grow g1, hs1, ?_⟩
      cases e2 : mb env s1 with
      | stuck => rw [bind_run, e2] at post; exact (show False from post).elim
      | exc c s2 => rw [bind_exc e2] at post; exact Post.later g1 post
      | ok y s2 =>
        rw [bind_ok e2] at post
        intro μ2 H2 g2 hs2 u hy
        have post2 := Post.later (g1.trans g2) post
        have hx2 := Rep.grow g2 x v hx
        clear post
        have seq : ∀ {ds : List D} {xs : List V}, RepL X.K μ2 H2 xs ds → Post X.K E μ2 H2 (ixS ds y s2) (okD X.K Q) → ∃ i w, u = .int i ∧ atI xs i = some w ∧ Q w H2 := by
          intro ds xs hl p2
          unfold ixS at p2
          cases hy with
          | int i =>
            cases ei : atI ds i with
            | none => simp only [ei] at p2; exact (show False from p2).elim
            | some d =>
              simp only [ei] at p2
              obtain ⟨w, hw, rw'⟩ := atI_rep hl ei
              exact ⟨i, w, rfl, hw, post_val hs2 p2 rw'⟩
          | _ => exact (show False from p2).elim
        unfold ixD at post2
        cases hx2 with
        | tup ht hl =>
          obtain ⟨i, w, rfl, hw, q⟩ := seq hl post2
          exact .inr (.inl ⟨_, _, i, w, rfl, rfl, ht, hw, q⟩)
        | flst ht hl =>
          obtain ⟨i, w, rfl, hw, q⟩ := seq hl post2
          exact .inl ⟨_, _, i, w, rfl, rfl, ht.sqL, hw, q⟩
        | str z =>
          cases hy with
          | int i =>
            simp only [] at post2
            split at post2
            · rename_i hz
              cases ei : atI z.cps.toList i with
              | none => simp only [ei] at post2; exact (show False from post2).elim
              | some d =>
                simp only [ei] at post2
                exact .inr (.inr ⟨_, i, d, rfl, rfl, sz_ok hz, ei, post_val hs2 post2 (.str _)⟩)
            · exact (show False from post2).elim
          | _ => exact (show False from post2).elim
        | @ptr p n hn =>
          cases ec : s2[n]? with
          | none => simp only [ec] at post2; exact (show False from post2).elim
          | some cl =>
            simp only [ec] at post2
            cases cl with
            | lst ds =>
              obtain ⟨xs, h1, hl⟩ := cell_lst hs2 hn ec
              obtain ⟨i, w, rfl, hw, q⟩ := seq hl post2
              exact .inl ⟨_, _, i, w, rfl, rfl, SqL.of h1, hw, q⟩
            | dK kvs => exact (hd ⟨n, s1, y, s2, kvs, e1, e2, ec⟩).elim
            | dT kvs => exact (show False from post2).elim
            | ins C fs => exact (show False from post2).elim
        | _ => exact (show False from post2).elim)

/-! ### calls -/
theorem te_call {K : PySem.W.Frag} {r : List V → Hp → VK → Prop} {h : List D → M D} (hr : ∀ xs H Q, RLof K E h xs H Q → r xs H Q) : ∀ σ H Q, TEof K E (callM h mr) σ H Q → tCB r (TAof K E mr) σ H Q := by
  rintro σ H Q ⟨μ, env, s, hv, hs, post⟩
  refine ⟨μ, env, s, hv, hs, (Post.bind post).mono fun ds s1 μ1 H1 g1 hs1 p1 vs hl => ?_⟩
  exact hr _ _ _ ⟨μ1, s1, ds, hs1, hl, p1⟩
theorem se_callB {x : Str} {p : Pos} {id : String} {h : List D → M D} (hc : CallR X (.builtin id) (RLof X.K E h)) (hg : Gl X x) (hm : X.mg x = none) (hv : bootBuiltins x = some (.builtin id)) (ha : SA X E (e :: es) mr) (hn : x ≠ "__name__" := by decide) (hdb : (x == ("__debug__" : Str)) = false := by decide)
    (he : starEach (e :: es) X.env = (false, eval e X.env) :: starEach es X.env := by rfl) (hpl : (backTo pos (starEach es X.env)).any (·.1) = false := by rfl) :
    SE X E (.Call (.Name x p) (e :: es) [] pos) (callM h mr) := PE.imp (pe_callB hc hg hm hv ha hn hdb he hpl) (te_call fun _ _ _ h => h)
theorem se_callTy {x : Str} {p : Pos} {T : String} {h : List D → M D} (hc : CallR X (.type T) (RLof X.K E h)) (hg : Gl X x) (hm : X.mg x = none) (hv : bootBuiltins x = some (.type T)) (ha : SA X E (e :: es) mr) (hn : x ≠ "__name__" := by decide) (hdb : (x == ("__debug__" : Str)) = false := by decide)
    (he : starEach (e :: es) X.env = (false, eval e X.env) :: starEach es X.env := by rfl) (hpl : (backTo pos (starEach es X.env)).any (·.1) = false := by rfl) :
    SE X E (.Call (.Name x p) (e :: es) [] pos) (callM h mr) := PE.imp (pe_callTy hc hg hm hv ha hn hdb he hpl) (te_call fun _ _ _ h => h)
theorem se_callBfun {x : Str} {p : Pos} {id : String} {h : List D → M D} (hc : CallR X (.builtin id) (RLof X.K E h)) (hg : Gl X x) (hm : X.mg x = some (.builtin id)) (ha : SA X E (e :: es) mr) (hdb : (x == ("__debug__" : Str)) = false := by decide)
    (he : starEach (e :: es) X.env = (false, eval e X.env) :: starEach es X.env := by rfl) (hpl : (backTo pos (starEach es X.env)).any (·.1) = false := by rfl) :
    SE X E (.Call (.Name x p) (e :: es) [] pos) (callM h mr) := PE.imp (pe_callBfun hc hg hm ha hdb he hpl) (te_call fun _ _ _ h => h)
/-- a def's promise by a mirror -/
def spM (K : PySem.W.Frag) (n : Nat) (F : List D → M D) : Sp := fun vs H Q E => ∃ μ s ds, SimS K μ H s ∧ RepL K μ H vs ds ∧ ds.length = n ∧ Post K E μ H (F ds s) (okD K Q)
def lenM (n : Nat) (F : List D → M D) (ds : List D) : M D := if ds.length = n then F ds else stuck
theorem te_own {K : PySem.W.Frag} {n : Nat} {F : List D → M D} : ∀ σ H Q, TEof K E (callM (lenM n F) mr) σ H Q → tCall (spM K n F) [] E (TAof K E mr) σ H Q := by
  rintro σ H Q ⟨μ, env, s, hv, hs, post⟩
  refine ⟨μ, env, s, hv, hs, (Post.bind post).mono fun ds s1 μ1 H1 g1 hs1 p1 vs hl => ?_⟩
  unfold lenM at p1
  split at p1
  · rename_i hn
    rw [List.append_nil]
    exact ⟨μ1, s1, ds, hs1, hl, hn, p1⟩
  · exact (show False from p1).elim
theorem se_call {CX : CXT} {k n : Nat} {fa : Addr} {fd : FuncData} {ps : List Str} {F : List D → M D} {x : Str} {p : Pos} (G : FnOk X.prog X.w X.K X.mg X.base CX k fa fd ps (spM X.K n F)) (hr : Room k X.A) (hg : Gl X x) (hm : X.mg x = some (.ref fa)) (hk : PySem.W.keepIn X.K (.ref fa) = true) (hb : Binds X.K fd ps []) (hx : Passes CX X E)
    (ha : SA X E (e :: es) mr) (hdb : (x == ("__debug__" : Str)) = false := by decide) (he : starEach (e :: es) X.env = (false, eval e X.env) :: starEach es X.env := by rfl) (hpl : (backTo pos (starEach es X.env)).any (·.1) = false := by rfl) :
    SE X E (.Call (.Name x p) (e :: es) [] pos) (callM (lenM n F) mr) := PE.imp (pe_call G hr hg hm hk hb .nil hx ha hdb he hpl) te_own
theorem se_call0 {CX : CXT} {k n : Nat} {fa : Addr} {fd : FuncData} {ps : List Str} {F : List D → M D} {x : Str} {p : Pos} (G : FnOk X.prog X.w X.K X.mg X.base CX k fa fd ps (spM X.K n F)) (hr : Room k X.A) (hg : Gl X x) (hm : X.mg x = some (.ref fa)) (hk : PySem.W.keepIn X.K (.ref fa) = true) (hb : Binds X.K fd ps []) (hx : Passes CX X E)
    (hdb : (x == ("__debug__" : Str)) = false := by decide) : SE X E (.Call (.Name x p) [] [] pos) (callM (lenM n F) nilA) := PE.imp (pe_call0 G hr hg hm hk hb .nil hx hdb) (by
  intro σ H Q h
  obtain ⟨μ, env, s, hv, hs, q⟩ := te_own σ H Q h
  exact Post.now q hs [] .nil)
end

/-! ### built-in functions -/
def fun1 (f : D → M D) (ds : List D) : M D := match ds with
  | [d] => f d
  | _ => stuck
def fun2 (f : D → D → M D) (ds : List D) : M D := match ds with
  | [d, e] => f d e
  | _ => stuck
def lenD (d : D) : M D := match d with
  | .tup ds => pure (.int ds.length)
  | .flst ds => pure (.int ds.length)
  | .str x => if x.length ≤ 100000 then pure (.int x.length) else stuck
  | .ptr n => fun s => match s[n]? with
    | some (.lst ds) => .ok (.int ds.length) s
    | some (.dK kvs) => .ok (.int kvs.length) s
    | _ => .stuck
  | _ => stuck
def intD (d : D) : M D := match d with
  | .int i => pure (.int i)
  | .bl k => pure (.int (if k then 1 else 0))
  | _ => stuck
def absD (d : D) : M D := match d with
  | .int i => pure (.int (if i < 0 then -i else i))
  | _ => stuck
def int2 (f : Int → Int → D) (d e : D) : M D := match d with
  | .int i => (match e with
    | .int j => pure (f i j)
    | _ => stuck)
  | _ => stuck
def min2D : D → D → M D := int2 fun i j => .int (if j < i then j else i)
def max2D : D → D → M D := int2 fun i j => .int (if j > i then j else i)
def gcdD : D → D → M D := int2 fun i j => .int ((Nat.gcd i.natAbs j.natAbs : Nat) : Int)
def listD (d : D) : M D := match d with
  | .tup ds => allocC (.lst ds)
  | .flst ds => allocC (.lst ds)
  | .ptr n => fun s => match s[n]? with
    | some (.lst ds) => allocC (.lst ds) s
    | _ => .stuck
  | _ => stuck
def tupleD (d : D) : M D := match d with
  | .tup ds => pure (.tup ds)
  | .flst ds => pure (.tup ds)
  | .ptr n => fun s => match s[n]? with
    | some (.lst ds) => .ok (.tup ds) s
    | _ => .stuck
  | _ => stuck
def dBls : List D → Option (List Bool)
  | [] => some []
  | .bl b :: r => (dBls r).map (b :: ·)
  | _ :: _ => none
def seqD (s : S) : D → Option (List D)
  | .flst ds => some ds
  | .ptr n => match s[n]? with
    | some (.lst ds) => some ds
    | _ => none
  | _ => none
def allD (x : D) : M D := fun s => match seqD s x with
    | some ds => (match dBls ds with
      | some bs => .ok (.bl (bs.all id)) s
      | none => .stuck)
    | none => .stuck
def anyD (x : D) : M D := fun s => match seqD s x with
    | some ds => (match dBls ds with
      | some bs => .ok (.bl (bs.any id)) s
      | none => .stuck)
    | none => .stuck
theorem seqD_rep {K : PySem.W.Frag} {μ : List Addr} {H : Hp} {s : S} {x : D} {v : V} {ds : List D} (hs : SimS K μ H s) (r : Rep K μ H v x) (e : seqD s x = some ds) : ∃ a xs, v = .ref a ∧ SqL K H a xs ∧ RepL K μ H xs ds := by
  cases r with
  | @flst a xs es h l =>
    cases e
    exact ⟨a, xs, rfl, h.sqL, l⟩
  | @ptr a n h =>
    unfold seqD at e
    simp only [] at e
    split at e
    · rename_i es hd
      cases e
      obtain ⟨xs, h1, l⟩ := cell_lst hs h hd
      exact ⟨a, xs, rfl, SqL.of h1, l⟩
    · cases e
  | _ => cases e
theorem dBls_rep {K : PySem.W.Frag} {μ : List Addr} {H : Hp} : ∀ {ds : List D} {xs : List V} {bs : List Bool}, dBls ds = some bs → RepL K μ H xs ds → xs = bs.map V.bl
  | [], _, bs, e, .nil => by
    unfold dBls at e
    cases e
    rfl
  | .bl i :: r, _, bs, e, .cons h t => by
    unfold dBls at e
    cases q : dBls r with
    | none => rw [q] at e; cases e
    | some ms =>
      rw [q] at e
      cases e
      cases h
      rw [dBls_rep q t]
      rfl
  | .non :: r, _, bs, e, _ => by unfold dBls at e; cases e
  | .int _ :: r, _, bs, e, _ => by unfold dBls at e; cases e
  | .str _ :: r, _, bs, e, _ => by unfold dBls at e; cases e
  | .tup _ :: r, _, bs, e, _ => by unfold dBls at e; cases e
  | .flst _ :: r, _, bs, e, _ => by unfold dBls at e; cases e
  | .ptr _ :: r, _, bs, e, _ => by unfold dBls at e; cases e
section
variable {X : Cx} {E : XK}
theorem repL1 {K : PySem.W.Frag} {μ : List Addr} {H : Hp} {xs : List V} {d : D} (h : RepL K μ H xs [d]) : ∃ v, xs = [v] ∧ Rep K μ H v d := by
  cases h with
  | cons r t => cases t; exact ⟨_, rfl, r⟩
theorem repL2 {K : PySem.W.Frag} {μ : List Addr} {H : Hp} {xs : List V} {d e : D} (h : RepL K μ H xs [d, e]) : ∃ v w, xs = [v, w] ∧ Rep K μ H v d ∧ Rep K μ H w e := by
  cases h with
  | cons r t =>
    obtain ⟨w, rfl, q⟩ := repL1 t
    exact ⟨_, w, rfl, r, q⟩
theorem CallR.imp {f : Value} {r r' : List V → Hp → VK → Prop} (h : CallR X f r) (k : ∀ xs H Q, r' xs H Q → r xs H Q) : CallR X f r' := fun pins s σ H xs us Q I rr q => h pins s σ H xs us Q I rr (k _ _ _ q)
theorem rl_1 {K : PySem.W.Frag} {g : D → M D} {r : List V → Hp → VK → Prop} (h : ∀ μ s d v H Q, SimS K μ H s → Rep K μ H v d → Post K E μ H (g d s) (okD K Q) → r [v] H Q) : ∀ xs H Q, RLof K E (fun1 g) xs H Q → r xs H Q := by
  rintro xs H Q ⟨μ, s, ds, hs, hl, post⟩
  cases hl with
  | nil => exact (show False from post).elim
  | cons a t =>
    cases t with
    | nil => exact h μ s _ _ H Q hs a post
    | cons b t => exact (show False from post).elim
theorem rl_2 {K : PySem.W.Frag} {g : D → D → M D} {r : List V → Hp → VK → Prop} (h : ∀ μ s d e v w H Q, SimS K μ H s → Rep K μ H v d → Rep K μ H w e → Post K E μ H (g d e s) (okD K Q) → r [v, w] H Q) : ∀ xs H Q, RLof K E (fun2 g) xs H Q → r xs H Q := by
  rintro xs H Q ⟨μ, s, ds, hs, hl, post⟩
  cases hl with
  | nil => exact (show False from post).elim
  | cons a t =>
    cases t with
    | nil => exact (show False from post).elim
    | cons b t =>
      cases t with
      | nil => exact h μ s _ _ _ _ H Q hs a b post
      | cons c t => exact (show False from post).elim
theorem cr_int : CallR X (.type "int") (RLof X.K E (fun1 intD)) := CallR.imp call_int1 (rl_1 fun μ s d v H Q hs r post => by
  cases r with
  | int i => exact .inl ⟨_, rfl, post_int hs post⟩
  | bl k => exact .inr ⟨_, rfl, post_int hs post⟩
  | _ => exact (show False from post).elim)
theorem cr_abs : CallR X (.builtin "abs") (RLof X.K E (fun1 absD)) := CallR.imp call_abs (rl_1 fun μ s d v H Q hs r post => by
  cases r with
  | int i => exact ⟨_, rfl, post_int hs post⟩
  | _ => exact (show False from post).elim)
theorem int2_rep {K : PySem.W.Frag} {f : Int → Int → D} {μ : List Addr} {s : S} {d e : D} {v w : V} {H : Hp} {Q : VK} (hs : SimS K μ H s) (r : Rep K μ H v d) (r' : Rep K μ H w e) (post : Post K E μ H (int2 f d e s) (okD K Q)) : ∃ i j, v = .int i ∧ w = .int j ∧ Post K E μ H (.ok (f i j) s) (okD K Q) := by
  cases r with
  | int i =>
    cases r' with
    | int j => exact ⟨i, j, rfl, rfl, post⟩
    | _ => exact (show False from post).elim
  | _ => exact (show False from post).elim
theorem cr_min2 (hc : X.calm = true) : CallR X (.builtin "min") (RLof X.K E (fun2 min2D)) := CallR.imp (call_min2 hc) (rl_2 fun μ s d e v w H Q hs r r' post => by
  obtain ⟨i, j, rfl, rfl, p⟩ := int2_rep hs r r' post
  exact ⟨i, j, rfl, post_int hs p⟩)
theorem cr_max2 (hc : X.calm = true) : CallR X (.builtin "max") (RLof X.K E (fun2 max2D)) := CallR.imp (call_max2 hc) (rl_2 fun μ s d e v w H Q hs r r' post => by
  obtain ⟨i, j, rfl, rfl, p⟩ := int2_rep hs r r' post
  exact ⟨i, j, rfl, post_int hs p⟩)
theorem cr_gcdD : CallR X (.builtin "math.gcd") (RLof X.K E (fun2 gcdD)) := CallR.imp cr_gcd (rl_2 fun μ s d e v w H Q hs r r' post => by
  obtain ⟨i, j, rfl, rfl, p⟩ := int2_rep hs r r' post
  exact ⟨i, j, rfl, post_int hs p⟩)
theorem cr_len : CallR X (.builtin "len") (RLof X.K E (fun1 lenD)) := CallR.imp (CallR.or call_len_seq (CallR.or call_len_str call_lenD)) (rl_1 fun μ s d v H Q hs r post => by
  unfold lenD at post
  cases r with
  | tup ht hl => exact .inl ⟨_, _, rfl, .inr ht, by rw [hl.length]; exact post_int hs post⟩
  | flst ht hl => exact .inl ⟨_, _, rfl, .inl ht.sqL, by rw [hl.length]; exact post_int hs post⟩
  | str x =>
    simp only [] at post
    split at post
    · rename_i hz
      exact .inr (.inl ⟨_, rfl, sz_ok hz, post_int hs post⟩)
    · exact (show False from post).elim
  | @ptr a n hn =>
    cases ec : s[n]? with
    | none => simp only [ec] at post; exact (show False from post).elim
    | some cl =>
      simp only [ec] at post
      cases cl with
      | lst es =>
        obtain ⟨ys, h1, h2⟩ := cell_lst hs hn ec
        exact .inl ⟨_, _, rfl, .inl (SqL.of h1), by rw [h2.length]; exact post_int hs post⟩
      | dK kvs =>
        obtain ⟨ys, h1, h2⟩ := cell_dK hs hn ec
        have e : ys.length = kvs.length := by
          have := congrArg List.length h2.1
          rw [List.length_map, List.length_map] at this
          exact this
        exact .inr (.inr ⟨_, _, rfl, h1, by rw [e]; exact post_int hs post⟩)
      | dT kvs => exact (show False from post).elim
      | ins C fs => exact (show False from post).elim
  | _ => exact (show False from post).elim)
theorem cr_list : CallR X (.type "list") (RLof X.K E (fun1 listD)) := CallR.imp call_list_of (rl_1 fun μ s d v H Q hs r post => by
  unfold listD at post
  cases r with
  | tup ht hl => exact ⟨_, _, rfl, .inr ht, post_alloc hs hl post⟩
  | flst ht hl => exact ⟨_, _, rfl, .inl ht.sqL, post_alloc hs hl post⟩
  | @ptr a n hn =>
    cases ec : s[n]? with
    | none => simp only [ec] at post; exact (show False from post).elim
    | some cl =>
      simp only [ec] at post
      cases cl with
      | lst es =>
        obtain ⟨ys, h1, h2⟩ := cell_lst hs hn ec
        exact ⟨_, _, rfl, .inl (SqL.of h1), post_alloc hs h2 post⟩
      | _ => exact (show False from post).elim
  | _ => exact (show False from post).elim)
theorem cr_tuple : CallR X (.type "tuple") (RLof X.K E (fun1 tupleD)) := CallR.imp call_tuple_of (rl_1 fun μ s d v H Q hs r post => by
  unfold tupleD at post
  cases r with
  | tup ht hl => exact ⟨_, _, rfl, .inr ⟨ht, post_val hs post (.tup ht hl)⟩⟩
  | flst ht hl => exact ⟨_, _, rfl, .inl ⟨ht.sqL, post_tup hs hl post⟩⟩
  | @ptr a n hn =>
    cases ec : s[n]? with
    | none => simp only [ec] at post; exact (show False from post).elim
    | some cl =>
      simp only [ec] at post
      cases cl with
      | lst es =>
        obtain ⟨ys, h1, h2⟩ := cell_lst hs hn ec
        exact ⟨_, _, rfl, .inl ⟨SqL.of h1, post_tup hs h2 post⟩⟩
      | _ => exact (show False from post).elim
  | _ => exact (show False from post).elim)
theorem cr_allD (hc : X.calm = true) : CallR X (.builtin "all") (RLof X.K E (fun1 allD)) := CallR.imp (cr_all hc) (rl_1 fun μ s d v H Q hs r post => by
  unfold allD at post
  cases e1 : seqD s d with
  | none => simp only [e1] at post; exact (show False from post).elim
  | some ds =>
    cases e2 : dBls ds with
    | none => simp only [e1, e2] at post; exact (show False from post).elim
    | some bs =>
      simp only [e1, e2] at post
      obtain ⟨a, xs, rfl, h1, h2⟩ := seqD_rep hs r e1
      rw [dBls_rep e2 h2] at h1
      exact ⟨a, bs, rfl, h1, post_bl hs post⟩)
theorem cr_anyD (hc : X.calm = true) : CallR X (.builtin "any") (RLof X.K E (fun1 anyD)) := CallR.imp (cr_any hc) (rl_1 fun μ s d v H Q hs r post => by
  unfold anyD at post
  cases e1 : seqD s d with
  | none => simp only [e1] at post; exact (show False from post).elim
  | some ds =>
    cases e2 : dBls ds with
    | none => simp only [e1, e2] at post; exact (show False from post).elim
    | some bs =>
      simp only [e1, e2] at post
      obtain ⟨a, xs, rfl, h1, h2⟩ := seqD_rep hs r e1
      rw [dBls_rep e2 h2] at h1
      exact ⟨a, bs, rfl, h1, post_bl hs post⟩)
end

/-! ### isinstance -/
def tyNm (s : S) : D → Option String
  | .non => some "NoneType"
  | .bl _ => some "bool"
  | .int _ => some "int"
  | .str _ => some "str"
  | .tup _ => some "tuple"
  | .flst _ => some "list"
  | .ptr n => match s[n]? with
    | some (.lst _) => some "list"
    | some (.dK _) => some "dict"
    | some (.dT _) => some "dict"
    | _ => none
def isiD (T : String) (d : D) : M D := fun s => match tyNm s d with
  | some t => (match kitB t T with
    | some b => .ok (.bl b) s
    | none => .stuck)
  | none => .stuck
theorem tyNm_rep {K : PySem.W.Frag} {μ : List Addr} {H : Hp} {s : S} {d : D} {v : V} {t : String} (hs : SimS K μ H s) (r : Rep K μ H v d) (e : tyNm s d = some t) : TyX K H v (.type t) := by
  unfold tyNm at e
  cases r with
  | non => cases e; exact .base .non
  | bl b => cases e; exact .base (.bl b)
  | int i => cases e; exact .base (.int i)
  | str x => cases e; exact .base (.str x)
  | tup ht hl =>
    cases e
    rcases ht with (h | ⟨o, h⟩) | ⟨o, its, n, hk, hc, _⟩
    · exact .base (.tup h)
    · exact .fTuple h
    · exact .kTuple hk hc
  | flst ht hl =>
    cases e
    rcases ht with ⟨o, h⟩ | ⟨o, its, n, hk, hc, _⟩
    · exact .base (.frz h)
    · exact .kList hk hc
  | @ptr a n hn =>
    cases ec : s[n]? with
    | none => simp only [ec] at e; cases e
    | some cl =>
      simp only [ec] at e
      cases cl with
      | lst es =>
        obtain ⟨ys, h1, h2⟩ := cell_lst hs hn ec
        cases e
        exact .base (.lst h1)
      | dK kvs =>
        obtain ⟨ys, h1, h2⟩ := cell_dK hs hn ec
        cases e
        exact .base (.dK h1)
      | dT kvs =>
        obtain ⟨b, hb, ys, h1, h2⟩ := hs.cell n _ ec
        rw [hn] at hb
        cases hb
        cases e
        exact .base (.dT h1)
      | ins C fs => cases e
section
variable {X : Cx} {E : XK} {a : Expr} {ma : Env → M D} {pos p pT : Pos}
theorem se_isi {T : Str} {Ts : String} (ha : SE X E a ma) (hg : Gl X "isinstance") (hm : X.mg "isinstance" = none) (hgT : Gl X T) (hmT : X.mg T = none) (hvT : bootBuiltins T = some (.type Ts)) (hn : T ≠ "__name__" := by decide) (hd : (T == ("__debug__" : Str)) = false := by decide)
    (hb : bootBuiltins "isinstance" = some (.builtin "isinstance") := by decide +kernel)
    (he : starEach [a, .Name T pT] X.env = (false, eval a X.env) :: starEach [.Name T pT] X.env := by rfl) :
    SE X E (.Call (.Name "isinstance" p) [a, .Name T pT] [] pos) (unM (isiD Ts) ma) := by
  have hTy : PE X (.Name T pT) (tC (.ty Ts)) := pe_bltn hgT hmT hvT rfl hn hd
  refine PE.imp (pe_callB call_isi hg hm hb (pa_cons ha (pa_cons hTy pa_nil) he) (by decide) (by decide) he rfl) ?_
  rintro σ H Q ⟨μ, env, s, hv, hs, post⟩
  refine ⟨μ, env, s, hv, hs, (Post.bind post).mono fun x s1 μ1 H1 g1 hs1 p1 v hx => ?_⟩
  unfold isiD at p1
  cases e1 : tyNm s1 x with
  | none => simp only [e1] at p1; exact (show False from p1).elim
  | some t =>
    cases e2 : kitB t Ts with
    | none => simp only [e1, e2] at p1; exact (show False from p1).elim
    | some b =>
      simp only [e1, e2] at p1
      exact ⟨v, .ty Ts, .type t, .type Ts, b, rfl, .ty Ts, tyNm_rep hs1 hx e1, kit_ty e2, post_bl hs1 p1⟩
end
end PL

/-! PL4: targets, walks, comprehensions, statements, loops, a def. -/
namespace PL
open PySem PySem.Spec PyProof.Rows L2

/-! ### targets -/
def TGof (K : PySem.W.Frag) (E : XK) (g : D → Env → M Env) : TG := fun v σ H Q => ∃ μ env s d, SimV K μ H σ env ∧ SimS K μ H s ∧ Rep K μ H v d ∧ Post K E μ H (g d env s) (fun env' _ μ' H' => ∀ σ', SimV K μ' H' σ' env' → Q σ' H')
def TGsof (K : PySem.W.Frag) (E : XK) (g : List D → Env → M Env) : TGs := fun vs σ H Q => ∃ μ env s ds, SimV K μ H σ env ∧ SimS K μ H s ∧ RepL K μ H vs ds ∧ Post K E μ H (g ds env s) (fun env' _ μ' H' => ∀ σ', SimV K μ' H' σ' env' → Q σ' H')
def SG (X : Cx) (E : XK) (tg : Expr) (g : D → Env → M Env) : Prop := PG X tg (TGof X.K E g)
def SGs (X : Cx) (E : XK) (tgs : List Expr) (g : List D → Env → M Env) : Prop := PGs X tgs (TGsof X.K E g)
def gNm (i : Nat) (d : D) (env : Env) : M Env := pure (env.set i (some d))
def gNilM (ds : List D) (env : Env) : M Env := match ds with
  | [] => pure env
  | _ => stuck
def gConsM (g : D → Env → M Env) (gs : List D → Env → M Env) (ds : List D) (env : Env) : M Env := match ds with
  | [] => stuck
  | d :: r => g d env >>= fun env' => gs r env'
def gTupM (n : Nat) (gs : List D → Env → M Env) (d : D) (env : Env) : M Env := match d with
  | .tup ds => if ds.length = n then gs ds env else stuck
  | _ => stuck
theorem PG.imp {X : Cx} {e : Expr} {t t' : TG} (h : PG X e t) (f : ∀ v σ H Q, t' v σ H Q → t v σ H Q) : PG X e t' := ⟨fun pins s σ H v u Q I r q => h.run pins s σ H v u Q I r (f v σ H Q q)⟩
theorem PGs.imp {X : Cx} {e : List Expr} {t t' : TGs} (h : PGs X e t) (f : ∀ v σ H Q, t' v σ H Q → t v σ H Q) : PGs X e t' := ⟨fun pins s σ H vs us Q I r q => h.run pins s σ H vs us Q I r (f vs σ H Q q)⟩

/-! ### storing into a list, a dict -/
def putL (ds : List D) (y v : D) (n : Nat) : M Unit := match y with
  | .int i => (match ixN ds.length i with
    | some j => fun s => .ok () (s.set n (.lst (ds.set j v)))
    | none => stuck)
  | _ => stuck
/-- o[i] = v of a list -/
def setLD (o i v : D) : M Unit := match o with
  | .ptr n => fun s => match s[n]? with
    | some (.lst ds) => putL ds i v n s
    | _ => .stuck
  | _ => stuck
def gSubM (mo mi : Env → M D) (f : D → D → D → M Unit) (v : D) (env : Env) : M Env := mo env >>= fun o => mi env >>= fun i => f o i v >>= fun _ => pure env
section
variable {X : Cx} {E : XK} {e a b : Expr} {ma mb : Env → M D} {pos p : Pos}
theorem sg_name (i : Nat) {x : Str} (hN : X.N.Nodup) (hi : X.N[i]? = some x := by rfl) (hx : Loc X.env.scope x := by first | exact Or.inl rfl | exact Or.inr rfl) (hf : X.fn x = true ∨ X.env.scope.names.lookup x = some .local := by first | exact .inl rfl | exact .inr rfl | assumption) : SG X E (.Name x pos) (gNm i) := PG.imp (pg_name hN hi hx hf) (by
  rintro v σ H Q ⟨μ, env, s, d, hv, hs, r, post⟩
  exact Post.now (a := env.set i (some d)) post hs _ (hv.set r i))
theorem sgs_nil : SGs X E [] gNilM := PGs.imp pgs_nil (by
  rintro vs σ H Q ⟨μ, env, s, ds, hv, hs, r, post⟩
  cases r with
  | nil => exact ⟨rfl, Post.now (a := env) post hs _ hv⟩
  | cons _ _ => exact (show False from post).elim)
theorem sgs_cons {es : List Expr} {g : D → Env → M Env} {gs : List D → Env → M Env} (h1 : SG X E e g) (h2 : SGs X E es gs) (ha : (assignEach (e :: es) X.env).map (·.2) = assign e X.env :: (assignEach es X.env).map (·.2) := by rfl) : SGs X E (e :: es) (gConsM g gs) := PGs.imp (pgs_cons h1 h2 ha) (by
  rintro vs σ H Q ⟨μ, env, s, ds, hv, hs, r, post⟩
  cases r with
  | nil => exact (show False from post).elim
  | @cons v vs d ds r1 r2 =>
    refine ⟨v, vs, rfl, μ, env, s, d, hv, hs, r1, (Post.bind post).mono fun env1 s1 μ1 H1 g1 hs1 p1 σ1 hv1 => ?_⟩
    exact ⟨μ1, env1, s1, ds, hv1, hs1, RepL.grow g1 _ _ r2, p1⟩)
theorem sg_tup {es : List Expr} {k n : Nat} {gs : List D → Env → M Env} (hc : X.calm = true) (h : SGs X E es gs) (hn : (assignEach es X.env).length = n := by rfl) (hst : (assignEach es X.env).findIdx? (·.1) = none := by rfl) : SG X E (.Tuple es k pos) (gTupM n gs) := PG.imp (pg_tup hc h hn hst) (by
  rintro v σ H Q ⟨μ, env, s, d, hv, hs, r, post⟩
  cases r with
  | @tup a xs ds ht hl =>
    unfold gTupM at post
    simp only [] at post
    split at post
    · rename_i hn
      exact ⟨a, xs, rfl, ht, hl.length.trans hn, μ, env, s, ds, hv, hs, hl, post⟩
    · exact (show False from post).elim
  | _ => exact (show False from post).elim)
/-- a store by values: what it asks -/
theorem setL_ok {K : PySem.W.Frag} {μ : List Addr} {H : Hp} {s : S} {o i v : D} {x y z : V} {q : Unit → S → List Addr → Hp → Prop} (hs : SimS K μ H s) (ro : Rep K μ H x o) (ri : Rep K μ H y i) (rv : Rep K μ H z v) (post : Post K E μ H (setLD o i v s) q) :
    rSetL x y z H (fun H' => ∃ s', Grow μ H μ H' ∧ SimS K μ H' s' ∧ q () s' μ H') := by
  unfold setLD at post
  cases ro with
  | @ptr a n hn =>
    cases ec : s[n]? with
    | none => simp only [ec] at post; exact (show False from post).elim
    | some cl =>
      simp only [ec] at post
      cases cl with
      | lst ds =>
        obtain ⟨xs, h1, hl⟩ := cell_lst hs hn ec
        unfold putL at post
        cases ri with
        | int k =>
          cases ej : ixN ds.length k with
          | none => simp only [ej] at post; exact (show False from post).elim
          | some j =>
            simp only [ej] at post
            have hm : Mut (H a) := by rw [h1]; trivial
            have g := grow_put (μ := μ) (H := H) (a := a) (o := .lst (xs.set j z)) hm (List.mem_of_getElem? hn)
            have hs' : SimS K μ (upd H a (.lst (xs.set j z))) (s.set n (.lst (ds.set j v))) := hs.put hn hm ⟨_, upd_same, RepL.grow g _ _ (hl.set rv j)⟩
            exact ⟨a, xs, k, j, rfl, rfl, h1, by rw [hl.length]; exact ej, _, g, hs', post _ _ g hs'⟩
        | _ => exact (show False from post).elim
      | dK kvs => exact (show False from post).elim
      | dT kvs => exact (show False from post).elim
      | ins C fs => exact (show False from post).elim
  | _ => exact (show False from post).elim
theorem sg_subL (ha : SE X E a ma) (hb : SE X E b mb) (hh : ∀ v, assign (.Subscript a b pos) X.env v = (do
      let ov ← holding [v] (eval a X.env)
      let iv ← holding [v, ov] (eval b X.env)
      standAt pos
      holding [v, ov, iv] (setItem ov iv v)
      release [v, ov, iv] []) := by intro _; rfl) : SG X E (.Subscript a b pos) (gSubM ma mb setLD) := PG.imp (pg_sub ha hb set_list hh) (by
  rintro v σ H Q ⟨μ, env, s, d, hv, hs, r, post⟩
  refine ⟨μ, env, s, hv, hs, (Post.bind post).mono fun o s1 μ1 H1 g1 hs1 p1 x hx => ?_⟩
  refine ⟨μ1, env, s1, hv.grow g1, hs1, (Post.bind p1).mono fun i s2 μ2 H2 g2 hs2 p2 y hy => ?_⟩
  obtain ⟨a, xs, k, j, e1, e2, h1, h2, s3, g3, hs3, q3⟩ := setL_ok hs2 (Rep.grow g2 o x hx) hy (Rep.grow (g1.trans g2) d v r) (Post.bind p2)
  exact ⟨a, xs, k, j, e1, e2, h1, h2, Post.now (a := env) q3 hs3 _ (((hv.grow g1).grow g2).grow g3)⟩)
end

/-! ### walks -/
/-- what is walked: the items; the cell that must stand still -/
structure Src where
  items : List D
  cell : Option (Nat × List D)
def Src.Ok (r : Src) (s : S) : Prop := match r.cell with
  | none => True
  | some (n, ds) => s[n]? = some (.lst ds)
def GoodIt (K : PySem.W.Frag) (μ0 : List Addr) (H0 : Hp) (J : It) (r : Src) : Prop :=
  ∀ μ H s, Grow μ0 H0 μ H → SimS K μ H s → r.Ok s →
    (∀ i d, r.items[i]? = some d → J.go i H ∧ ∀ x H', J.yld i H x H' → Grow μ H μ H' ∧ SimS K μ H' s ∧ Rep K μ H' x d) ∧ J.stop r.items.length H
def TIof (K : PySem.W.Frag) (E : XK) (m : Env → M Src) : TI := fun σ H R => ∃ μ env s, SimV K μ H σ env ∧ SimS K μ H s ∧ Post K E μ H (m env s) (fun r _ μ' H' => ∀ J, GoodIt K μ' H' J r → R J H')
def SI (X : Cx) (E : XK) (tg iter : Expr) (m : Env → M Src) : Prop := PI X tg iter (TIof X.K E m)
theorem PI.imp {X : Cx} {tg e : Expr} {t t' : TI} (h : PI X tg e t) (f : ∀ σ H Q, t' σ H Q → t σ H Q) : PI X tg e t' := ⟨fun pins s σ H R I q => h.run pins s σ H R I (f σ H R q)⟩
theorem PI.or {X : Cx} {tg e : Expr} {t t' : TI} (h : PI X tg e t) (h' : PI X tg e t') : PI X tg e (fun σ H Q => t σ H Q ∨ t' σ H Q) :=
  ⟨fun pins s σ H R I q => q.elim (fun q => h.run pins s σ H R I q) (fun q => h'.run pins s σ H R I q)⟩
/-- a list or a tuple -/
def signsOf (x : Str) : List D := x.cps.toList.map fun c => D.str ⟨#[c]⟩
def srcD (d : D) : M Src := match d with
  | .str x => pure ⟨signsOf x, none⟩
  | .tup ds => pure ⟨ds, none⟩
  | .flst ds => pure ⟨ds, none⟩
  | .ptr n => fun s => match s[n]? with
    | some (.lst ds) => .ok ⟨ds, some (n, ds)⟩ s
    | _ => .stuck
  | _ => stuck
def srcM (m : Env → M D) (env : Env) : M Src := m env >>= srcD
def rngItems (lo : Int) (n : Nat) : List D := (List.range n).map fun (i : Nat) => D.int (lo + (i : Int))
def rng1D (ds : List D) : M Src := match ds with
  | [.int j] => if -4000000000 ≤ j ∧ j ≤ 4000000000 then pure ⟨rngItems 0 j.toNat, none⟩ else stuck
  | _ => stuck
def rng2D (ds : List D) : M Src := match ds with
  | [.int i, .int j] => if (-4000000000 ≤ i ∧ i ≤ 4000000000) ∧ (-4000000000 ≤ j ∧ j ≤ 4000000000) then pure ⟨rngItems i (j - i).toNat, none⟩ else stuck
  | _ => stuck
def srcA (f : List D → M Src) (m : Env → M (List D)) (env : Env) : M Src := m env >>= f
theorem good_tup {K : PySem.W.Frag} {μ : List Addr} {H : Hp} {a : Addr} {xs : List V} {ds : List D} (h : SqT K H a xs) (l : RepL K μ H xs ds) : GoodIt K μ H (Itt K a) ⟨ds, none⟩ := fun μ' H' s g hs _ => by
  have h' := g.sqT h
  have l' := RepL.grow g _ _ l
  refine ⟨fun i d e => ?_, xs, h', Nat.le_of_eq l.length⟩
  obtain ⟨v, hv, r⟩ := l'.get e
  refine ⟨⟨xs, v, h', hv⟩, fun x H2 y => ?_⟩
  obtain ⟨rfl, y⟩ := y
  have e2 : v = x := Option.some.inj (hv.symm.trans (y xs h'))
  subst e2
  exact ⟨Grow.refl _ _, hs, r⟩
theorem good_flst {K : PySem.W.Frag} {μ : List Addr} {H : Hp} {a : Addr} {xs : List V} {ds : List D} (h : FrzL K H a xs) (l : RepL K μ H xs ds) : GoodIt K μ H (Itl K a) ⟨ds, none⟩ := fun μ' H' s g hs _ => by
  have h' := (g.frzL h).sqL
  have l' := RepL.grow g _ _ l
  refine ⟨fun i d e => ?_, xs, h', Nat.le_of_eq l.length⟩
  obtain ⟨v, hv, r⟩ := l'.get e
  refine ⟨⟨xs, v, h', hv⟩, fun x H2 y => ?_⟩
  obtain ⟨rfl, y⟩ := y
  have e2 : v = x := Option.some.inj (hv.symm.trans (y xs h'))
  subst e2
  exact ⟨Grow.refl _ _, hs, r⟩
theorem good_lst {K : PySem.W.Frag} {μ : List Addr} {H : Hp} {a : Addr} {n : Nat} {ds : List D} (h : μ[n]? = some a) : GoodIt K μ H (Itl K a) ⟨ds, some (n, ds)⟩ := fun μ' H' s g hs ok => by
  obtain ⟨xs, h1, l'⟩ := cell_lst hs (g.at h) ok
  have h' : SqL K H' a xs := SqL.of h1
  refine ⟨fun i d e => ?_, xs, h', Nat.le_of_eq l'.length⟩
  obtain ⟨v, hv, r⟩ := l'.get e
  refine ⟨⟨xs, v, h', hv⟩, fun x H2 y => ?_⟩
  obtain ⟨rfl, y⟩ := y
  have e2 : v = x := Option.some.inj (hv.symm.trans (y xs h'))
  subst e2
  exact ⟨Grow.refl _ _, hs, r⟩
theorem good_str {K : PySem.W.Frag} {μ : List Addr} {H : Hp} {x : Str} : GoodIt K μ H (Its x) ⟨signsOf x, none⟩ := fun μ' H' s g hs _ => by
  have hl : (signsOf x).length = x.cps.size := by unfold signsOf; rw [List.length_map, Array.length_toList]
  refine ⟨fun i d e => ?_, Nat.le_of_eq hl.symm⟩
  have hi : i < x.cps.size := by rw [← hl]; exact (List.getElem?_eq_some_iff.mp e).1
  refine ⟨hi, fun v H2 y => ?_⟩
  obtain ⟨rfl, c, hc, rfl⟩ := y
  unfold signsOf at e
  rw [List.getElem?_map, Array.getElem?_toList, hc] at e
  cases e
  exact ⟨Grow.refl _ _, hs, .str _⟩
theorem good_rng {K : PySem.W.Frag} {μ : List Addr} {H : Hp} {lo : Int} {n : Nat} : GoodIt K μ H (Itr lo n) ⟨rngItems lo n, none⟩ := fun μ' H' s g hs _ => by
  have hl : (rngItems lo n).length = n := by unfold rngItems; rw [List.length_map, List.length_range]
  refine ⟨fun i d e => ?_, Nat.le_of_eq hl.symm⟩
  have hi : i < n := by rw [← hl]; exact (List.getElem?_eq_some_iff.mp e).1
  refine ⟨hi, fun x H2 y => ?_⟩
  obtain ⟨rfl, rfl⟩ := y
  unfold rngItems at e
  rw [List.getElem?_map, List.getElem?_range hi] at e
  cases e
  exact ⟨Grow.refl _ _, hs, .int _⟩
section
variable {X : Cx} {E : XK} {e a b tg : Expr} {ma mb : Env → M D} {pos p : Pos} {es : List Expr} {mr : Env → M (List D)}
theorem si_seq (ha : SE X E a ma) : SI X E tg a (srcM ma) := PI.imp (PI.or (pi_list ha) (PI.or (pi_tup ha) (pi_str ha))) (by
  rintro σ H R ⟨μ, env, s, hv, hs, post⟩
  have post' : Post X.K E μ H ((ma env >>= srcD) s) (fun r _ μ' H' => ∀ J, GoodIt X.K μ' H' J r → R J H') := post
  by_cases hd : ∃ ds s1, ma env s = .ok (.tup ds) s1
  · right; left
    obtain ⟨ds, s1, e1⟩ := hd
    rw [bind_ok e1] at post'
    refine ⟨μ, env, s, hv, hs, ?_⟩
    rw [e1]
    intro μ1 H1 g1 hs1 v hx
    cases hx with
    | @tup q xs _ ht hl => exact ⟨q, rfl, ⟨xs, ht⟩, Post.now (a := (⟨ds, none⟩ : Src)) (Post.later g1 post') hs1 _ (good_tup ht hl)⟩
  · by_cases hx : ∃ x s1, ma env s = .ok (.str x) s1
    · right; right
      obtain ⟨x, s1, e1⟩ := hx
      rw [bind_ok e1] at post'
      refine ⟨μ, env, s, hv, hs, ?_⟩
      rw [e1]
      intro μ1 H1 g1 hs1 v hx
      cases hx with
      | str x => exact ⟨x, rfl, Post.now (a := (⟨signsOf x, none⟩ : Src)) (Post.later g1 post') hs1 _ good_str⟩
    left
    refine ⟨μ, env, s, hv, hs, ?_⟩
    cases e1 : ma env s with
    | stuck => rw [bind_run, e1] at post'; exact (show False from post').elim
    | exc c s1 => rw [bind_exc e1] at post'; exact post'
    | ok x s1 =>
      rw [bind_ok e1] at post'
      intro μ1 H1 g1 hs1 v hxx
      have p1 := Post.later g1 post'
      unfold srcD at p1
      cases hxx with
      | tup ht hl => exact (hd ⟨_, _, e1⟩).elim
      | @flst q xs ds ht hl => exact ⟨q, rfl, ⟨xs, ht.sqL⟩, Post.now (a := (⟨ds, none⟩ : Src)) p1 hs1 _ (good_flst ht hl)⟩
      | @ptr q n hn =>
        cases ec : s1[n]? with
        | none => simp only [ec] at p1; exact (show False from p1).elim
        | some cl =>
          simp only [ec] at p1
          cases cl with
          | lst ds =>
            obtain ⟨xs, h1, hl⟩ := cell_lst hs1 hn ec
            exact ⟨q, rfl, ⟨xs, SqL.of h1⟩, Post.now (a := (⟨ds, some (n, ds)⟩ : Src)) p1 hs1 _ (good_lst hn)⟩
          | dK kvs => exact (show False from p1).elim
          | dT kvs => exact (show False from p1).elim
          | ins C fs => exact (show False from p1).elim
      | non => exact (show False from p1).elim
      | bl _ => exact (show False from p1).elim
      | int _ => exact (show False from p1).elim
      | str x => exact (hx ⟨x, _, e1⟩).elim)
theorem si_range1 {mr : Env → M (List D)} (hg : Gl X "range") (hm : X.mg "range" = none) (ha : SA X E [a] mr) (hs : starEach [a] X.env = [(false, eval a X.env)] := by rfl) : SI X E tg (.Call (.Name "range" p) [a] [] pos) (srcA rng1D mr) := PI.imp (pi_range1 hg hm ha hs) (by
  rintro σ H R ⟨μ, env, s, hv, hs, post⟩
  refine ⟨μ, env, s, hv, hs, (Post.bind post).mono fun ds s1 μ1 H1 g1 hs1 p1 vs hl => ?_⟩
  unfold rng1D at p1
  split at p1
  · rename_i j
    obtain ⟨v, rfl, r⟩ := repL1 hl
    cases r
    split at p1
    · exact ⟨j, rfl, by omega, by omega, Post.now (a := (⟨rngItems 0 j.toNat, none⟩ : Src)) p1 hs1 _ good_rng⟩
    · exact (show False from p1).elim
  · exact (show False from p1).elim)
theorem si_range2 {mr : Env → M (List D)} (hg : Gl X "range") (hm : X.mg "range" = none) (ha : SA X E [a, b] mr) (hs : starEach [a, b] X.env = [(false, eval a X.env), (false, eval b X.env)] := by rfl) (hs2 : starEach [b] X.env = [(false, eval b X.env)] := by rfl) : SI X E tg (.Call (.Name "range" p) [a, b] [] pos) (srcA rng2D mr) := PI.imp (pi_range2 hg hm ha hs hs2) (by
  rintro σ H R ⟨μ, env, s, hv, hs, post⟩
  refine ⟨μ, env, s, hv, hs, (Post.bind post).mono fun ds s1 μ1 H1 g1 hs1 p1 vs hl => ?_⟩
  unfold rng2D at p1
  split at p1
  · rename_i i j
    obtain ⟨v, w, rfl, r, r'⟩ := repL2 hl
    cases r
    cases r'
    split at p1
    · exact ⟨i, j, rfl, by omega, Post.now (a := (⟨rngItems i (j - i).toNat, none⟩ : Src)) p1 hs1 _ good_rng⟩
    · exact (show False from p1).elim
  · exact (show False from p1).elim)
end

/-! ### comprehensions -/
def wipeE (env : Env) : List Nat → Env
  | [] => env
  | v :: vs => (wipeE env vs).set v none
theorem SimV.wipe {K : PySem.W.Frag} {μ : List Addr} {H : Hp} {σ : L2.St} {env : Env} (h : SimV K μ H σ env) : ∀ vs : List Nat, SimV K μ H (wipe σ vs) (wipeE env vs)
  | [] => h
  | v :: vs => by
    have ih := SimV.wipe h vs
    unfold L2.wipe wipeE
    refine ⟨by rw [List.length_set, List.length_set, ih.len], fun j e hj => ?_⟩
    by_cases hij : v = j
    · subst hij
      by_cases hl : v < (wipeE env vs).length
      · rw [List.getElem?_set_self hl] at hj
        cases hj
      · rw [List.getElem?_eq_none (by rw [List.length_set]; omega)] at hj
        cases hj
    · rw [List.getElem?_set_ne hij] at hj
      obtain ⟨w, h1, h2⟩ := ih.val j e hj
      exact ⟨w, by rw [List.getElem?_set_ne hij]; exact h1, h2⟩
noncomputable instance decOk (r : Src) (s : S) : Decidable (r.Ok s) := Classical.propDecidable _
/-- the walked list stands as it stood -/
noncomputable def guardM (r : Src) : M Unit := fun s => if r.Ok s then .ok () s else .stuck
noncomputable def collM (r : Src) (g : D → Env → M Env) (t : Env → M Bool) (e : Env → M D) (env0 : Env) : List D → M (List D)
  | [] => guardM r >>= fun _ => pure []
  | d :: ds => guardM r >>= fun _ => g d env0 >>= fun env => t env >>= fun b => if b then e env >>= fun y => collM r g t e env0 ds >>= fun ys => pure (y :: ys) else collM r g t e env0 ds
def szM (n : Nat) : M Unit := if n ≤ 100000 then pure () else stuck
/-- [e for g in r if t], vs: its own slots -/
noncomputable def compM (mi : Env → M Src) (g : D → Env → M Env) (t : Env → M Bool) (e : Env → M D) (vs : List Nat) (env : Env) : M D :=
  mi env >>= fun r => szM r.items.length >>= fun _ => collM r g t e (wipeE env vs) r.items >>= fun ys => allocC (.lst ys)
def yesT (_ : Env) : M Bool := pure true
def STs (X : Cx) (E : XK) (ifs : List Expr) (t : Env → M Bool) : Prop := PTs X ifs (TTof X.K E t)
theorem PTs.imp {X : Cx} {es : List Expr} {t t' : TT} (h : PTs X es t) (f : ∀ σ H Q, t' σ H Q → t σ H Q) : PTs X es t' := ⟨fun pins s σ H Q I q => h.run pins s σ H Q I (f σ H Q q)⟩
mutual
theorem Rep.heap {K : PySem.W.Frag} {μ : List Addr} {H H' : Hp} (ht : ∀ a xs, H a = some (.tup xs) → H' a = some (.tup xs)) (hf : ∀ a o u, H a = some (.frz o u) → H' a = some (.frz o u)) : ∀ (d : D) (v : V), Rep K μ H v d → Rep K μ H' v d
  | .non, _, h => by cases h; exact .non
  | .bl b, _, h => by cases h; exact .bl b
  | .int i, _, h => by cases h; exact .int i
  | .str x, _, h => by cases h; exact .str x
  | .tup ds, _, h => by
    cases h with
    | tup hs hl =>
      refine .tup ?_ (RepL.heap ht hf ds _ hl)
      rcases hs with (h | ⟨o, h⟩) | h
      · exact .inl (.inl (ht _ _ h))
      · exact .inl (.inr ⟨o, hf _ _ _ h⟩)
      · exact .inr h
  | .flst ds, _, h => by
    cases h with
    | flst hs hl =>
      refine .flst ?_ (RepL.heap ht hf ds _ hl)
      rcases hs with ⟨o, h⟩ | h
      · exact .inl ⟨o, hf _ _ _ h⟩
      · exact .inr h
  | .ptr n, _, h => by
    cases h with
    | ptr e => exact .ptr e
theorem RepL.heap {K : PySem.W.Frag} {μ : List Addr} {H H' : Hp} (ht : ∀ a xs, H a = some (.tup xs) → H' a = some (.tup xs)) (hf : ∀ a o u, H a = some (.frz o u) → H' a = some (.frz o u)) : ∀ (ds : List D) (vs : List V), RepL K μ H vs ds → RepL K μ H' vs ds
  | [], _, h => by cases h; exact .nil
  | d :: ds, _, h => by
    cases h with
    | cons h1 h2 => exact .cons (Rep.heap ht hf d _ h1) (RepL.heap ht hf ds _ h2)
end
theorem CellOk.heap {K : PySem.W.Frag} {μ : List Addr} {H H' : Hp} {a : Addr} {c : Cell} (ht : ∀ a xs, H a = some (.tup xs) → H' a = some (.tup xs)) (hf : ∀ a o u, H a = some (.frz o u) → H' a = some (.frz o u)) (e : H' a = H a) (h : CellOk K μ H a c) : CellOk K μ H' a c := by
  cases c with
  | lst ds => obtain ⟨xs, q, r⟩ := h; exact ⟨xs, e.trans q, RepL.heap ht hf _ _ r⟩
  | dK kvs => obtain ⟨xs, q, r⟩ := h; exact ⟨xs, e.trans q, r.1, RepL.heap ht hf _ _ r.2⟩
  | dT kvs => obtain ⟨xs, q, r⟩ := h; exact ⟨xs, e.trans q, r.1, RepL.heap ht hf _ _ r.2⟩
  | ins C fs => obtain ⟨c, dx, xs, hc, q, r⟩ := h; exact ⟨c, dx, xs, hc, e.trans q, r.1, RepL.heap ht hf _ _ r.2⟩
/-- a list beside the store is written -/
theorem SimS.aside {K : PySem.W.Frag} {μ : List Addr} {H : Hp} {s : S} {p : Addr} {xs ys : List V} (h : SimS K μ H s) (np : p ∉ μ) (hp : H p = some (.lst xs)) : SimS K μ (upd H p (.lst ys)) s :=
  ⟨h.len, h.nd, fun n c e => by
    obtain ⟨a, h1, h2⟩ := h.cell n c e
    refine ⟨a, h1, h2.heap (fun b zs q => ?_) (fun b o u q => ?_) (upd_ne fun z => np ?_)⟩
    · rw [upd_ne fun z => by rw [z, hp] at q; cases q]
      exact q
    · rw [upd_ne fun z => by rw [z, hp] at q; cases q]
      exact q
    · rw [← z]
      exact List.mem_of_getElem? h1⟩
section
variable {X : Cx} {E : XK}
theorem sts_nil : STs X E [] yesT := PTs.imp pts_nil (by
  rintro σ H Q ⟨μ, env, s, hv, hs, post⟩
  exact Post.now (a := true) post hs)
theorem sts_one {c : Expr} {t : Env → M Bool} (h : ST X E c t) : STs X E [c] t := pts_one h
theorem m_assoc {α β γ : Type} (m : M α) (f : α → M β) (g : β → M γ) : ((m >>= f) >>= g) = (m >>= fun a => f a >>= g) := by
  funext s
  rw [bind_run, bind_run, bind_run]
  cases m s with
  | stuck => rfl
  | exc c s' => rfl
  | ok a s' => exact (bind_run (f a) g s')
theorem m_congr {α β : Type} {m : M α} {f g : α → M β} (h : ∀ a, f a = g a) : (m >>= f) = (m >>= g) := by
  rw [show f = g from funext h]
theorem guard_ok {K : PySem.W.Frag} {α : Type} {r : Src} {f : Unit → M α} {s : S} {μ : List Addr} {H : Hp} {q : α → S → List Addr → Hp → Prop} (h : Post K E μ H ((guardM r >>= f) s) q) : r.Ok s ∧ Post K E μ H (f () s) q := by
  rw [bind_run] at h
  unfold guardM at h
  by_cases ok : r.Ok s
  · rw [if_pos ok] at h
    exact ⟨ok, h⟩
  · rw [if_neg ok] at h
    exact h.elim
theorem m_pure {α β : Type} (a : α) (f : α → M β) : ((Pure.pure a : M α) >>= f) = f a := rfl
theorem Post.bindB {α β : Type} {K : PySem.W.Frag} {μ μ1 : List Addr} {H H1 : Hp} {m : M α} {f : α → M β} {s : S} {q : β → S → List Addr → Hp → Prop} (h : Post K E μ H ((m >>= f) s) q) (g : Grow μ H μ1 H1) : Post K E μ1 H1 (m s) (fun a s1 _ _ => Post K E μ H (f a s1) q) := by
  rw [bind_run] at h
  cases e : m s with
  | stuck => rw [e] at h; exact h
  | ok a s' =>
    rw [e] at h
    exact fun _ _ _ _ => h
  | exc c s' => rw [e] at h; exact Post.later (α := α) (r := .exc c s') (q := fun _ _ _ _ => True) g h
/-- the loop of a comprehension -/
theorem lc_ok {K : PySem.W.Frag} {r : Src} {J : It} {g : D → Env → M Env} {gt : TG} {t : Env → M Bool} {e : Env → M D} {σ : L2.St} {env : Env} {vs : List Nat} {μ : List Addr} {H1 : Hp} {s1 : S} {Q : VK} {Dl : Addr}
    (hv : SimV K μ H1 σ env) (hs : SimS K μ H1 s1) (hJ : GoodIt K μ H1 J r) (hlen : r.items.length ≤ 100000) (hDn : H1 Dl = none)
    (hg : ∀ v H Qg, TGof K E g v (wipe σ vs) H Qg → gt v (wipe σ vs) H fun σ2 H2 => wipe σ2 vs = wipe σ vs ∧ Qg σ2 H2)
    (post : Post K E μ H1 ((collM r g t e (wipeE env vs) r.items >>= fun ys => allocC (.lst ys)) s1) (okD K Q)) :
    ∃ W : Nat → Nat → Hp → Prop, (∃ m, W 0 m (upd H1 Dl (.lst []))) ∧ ∀ i m H, W i m H →
      (J.stop i H ∧ Q (.ref Dl) H) ∨ (J.go i H ∧ ∃ Nx : Hp → Prop, (∀ H', Nx H' → ∃ m', m' < m ∧ W (i + 1) m' H') ∧ ∀ x H', J.yld i H x H' → gt x (wipe σ vs) H' fun σ2 H2 => wipe σ2 vs = wipe σ vs ∧ TTof K E t σ2 H2 fun b H3 =>
        if b = true then TEof K E e σ2 H3 fun y H4 => ∃ acc, H4 Dl = some (.lst acc) ∧ acc.length < sizeLine ∧ Nx (upd H4 Dl (.lst (acc ++ [y]))) else Nx H3) := by
  have nD : Dl ∉ μ := fun hm => by
    obtain ⟨u, hu, _⟩ := hs.mem hm
    rw [hDn] at hu
    cases hu
  -- what holds at a turn
  let Tn : Nat → Hp → Prop := fun i H => ∃ μ' s' acc xs, Grow μ H1 μ' H ∧ Dl ∉ μ' ∧ SimS K μ' H s' ∧ H Dl = some (.lst xs) ∧ RepL K μ' H xs acc ∧ acc.length ≤ i ∧ i ≤ r.items.length ∧
    Post K E μ H1 ((collM r g t e (wipeE env vs) (r.items.drop i) >>= fun ys => allocC (.lst (acc ++ ys))) s') (okD K Q)
  have keep : ∀ {μ1 μ2 : List Addr} {Ha Hb : Hp} {xs : List V}, Grow μ1 Ha μ2 Hb → Dl ∉ μ1 → Ha Dl = some (.lst xs) → Dl ∉ μ2 ∧ Hb Dl = some (.lst xs) := fun {μ1 μ2 Ha Hb xs} g2 n h => by
    have n2 : Dl ∉ μ2 := fun z => by
      rcases g2.new Dl z with z | z
      · exact n z
      · rw [h] at z
        cases z
    exact ⟨n2, g2.frm Dl _ h n2⟩
  have bump : ∀ {μ' : List Addr} {H : Hp} {xs ys : List V}, Grow μ H1 μ' H → H Dl = some (.lst xs) → Grow μ H1 μ' (upd H Dl (.lst ys)) := fun {μ' H xs ys} g1 h => by
    have ne : ∀ {a : Addr} {o : HO}, H1 a = some o → a ≠ Dl := fun {a o} h1 z => by
      rw [z, hDn] at h1
      cases h1
    exact ⟨g1.pre, fun a o h1 => by rw [upd_ne (ne h1)]; exact g1.tup a o h1, fun a o u h1 => by rw [upd_ne (ne h1)]; exact g1.frz a o u h1, fun a o h1 n => by rw [upd_ne (ne h1)]; exact g1.frm a o h1 n, g1.new, fun a h1 => g1.trk a (upd_trk a h1)⟩
  refine ⟨fun i m H => m = r.items.length - i ∧ Tn i H, ⟨r.items.length - 0, rfl, μ, s1, [], [], grow_new hDn, nD, hs.lay hDn, upd_same, .nil, Nat.le_refl _, Nat.zero_le _, post⟩, ?_⟩
  rintro i m H ⟨rfl, μ', s', acc, xs, g1, nD', hs', hD, hacc, hli, hile, p⟩
  by_cases hi : i < r.items.length
  · right
    obtain ⟨d, hd⟩ : ∃ d, r.items[i]? = some d := ⟨_, List.getElem?_eq_getElem hi⟩
    have ed : r.items.drop i = d :: r.items.drop (i + 1) := by
      rw [List.drop_eq_getElem_cons hi]
      rw [List.getElem?_eq_getElem hi] at hd
      cases hd
      rfl
    rw [ed] at p
    have e1 : (collM r g t e (wipeE env vs) (d :: r.items.drop (i + 1)) >>= fun ys => allocC (.lst (acc ++ ys))) = (guardM r >>= fun _ => g d (wipeE env vs) >>= fun env2 => t env2 >>= fun b => if b then e env2 >>= fun y => collM r g t e (wipeE env vs) (r.items.drop (i + 1)) >>= fun ys => allocC (.lst (acc ++ (y :: ys))) else (collM r g t e (wipeE env vs) (r.items.drop (i + 1)) >>= fun ys => allocC (.lst (acc ++ ys)))) := by
      show ((guardM r >>= fun _ => g d (wipeE env vs) >>= fun env2 => t env2 >>= fun b => if b then e env2 >>= fun y => collM r g t e (wipeE env vs) (r.items.drop (i + 1)) >>= fun ys => (Pure.pure (y :: ys) : M (List D)) else collM r g t e (wipeE env vs) (r.items.drop (i + 1))) >>= fun ys => allocC (.lst (acc ++ ys))) = _
      rw [m_assoc]
      refine m_congr fun _ => ?_
      rw [m_assoc]
      refine m_congr fun env2 => ?_
      rw [m_assoc]
      refine m_congr fun b => ?_
      cases b with
      | true =>
        show ((e env2 >>= fun y => collM r g t e (wipeE env vs) (r.items.drop (i + 1)) >>= fun ys => (Pure.pure (y :: ys) : M (List D))) >>= _) = (e env2 >>= fun y => collM r g t e (wipeE env vs) (r.items.drop (i + 1)) >>= fun ys => allocC (.lst (acc ++ (y :: ys))))
        rw [m_assoc]
        refine m_congr fun y => ?_
        rw [m_assoc]
        exact m_congr fun ys => rfl
      | false => rfl
    rw [e1] at p
    obtain ⟨ok, p2⟩ := guard_ok p
    clear p e1
    obtain ⟨go, yl⟩ := (hJ μ' H s' g1 hs' ok).1 i d hd
    refine ⟨go, fun H' => Tn (i + 1) H', fun H' q => ⟨r.items.length - (i + 1), by omega, rfl, q⟩, fun x H' y => ?_⟩
    obtain ⟨g2, hs2, rx⟩ := yl x H' y
    obtain ⟨nD2, hD2⟩ := keep g2 nD' hD
    refine hg x H' _ ⟨μ', wipeE env vs, s', d, (hv.grow (g1.trans g2)).wipe vs, hs2, rx, (Post.bindB p2 (g1.trans g2)).mono fun env2 s2 μ3 H3 g3 hs3 p3 σ2 hv2 => ?_⟩
    obtain ⟨nD3, hD3⟩ := keep g3 nD2 hD2
    refine ⟨μ3, env2, s2, hv2, hs3, (Post.bindB p3 ((g1.trans g2).trans g3)).mono fun b s4 μ4 H4 g4 hs4 p4 => ?_⟩
    obtain ⟨nD4, hD4⟩ := keep g4 nD3 hD3
    have gt4 := (g1.trans g2).trans (g3.trans g4)
    show if b = true then _ else _
    cases b with
    | false => exact ⟨μ4, s4, acc, xs, gt4, nD4, hs4, hD4, RepL.grow (g2.trans (g3.trans g4)) _ _ hacc, by omega, hi, p4⟩
    | true =>
      refine ⟨μ4, env2, s4, hv2.grow g4, hs4, (Post.bindB p4 gt4).mono fun y s5 μ5 H5 g5 hs5 p5 v hy => ?_⟩
      obtain ⟨nD5, hD5⟩ := keep g5 nD4 hD4
      have gt5 := gt4.trans g5
      have hacc5 := RepL.grow (g2.trans (g3.trans (g4.trans g5))) _ _ hacc
      -- the list alone is written: what is known of the others stands
      have gL : ∀ {ys : List V}, (∀ a xs0, H5 a = some (.tup xs0) → upd H5 Dl (.lst ys) a = some (.tup xs0)) ∧ (∀ a o u, H5 a = some (.frz o u) → upd H5 Dl (.lst ys) a = some (.frz o u)) := fun {ys} => by
        refine ⟨fun a xs0 h => ?_, fun a o u h => ?_⟩
        · rw [upd_ne fun z => by rw [z, hD5] at h; cases h]
          exact h
        · rw [upd_ne fun z => by rw [z, hD5] at h; cases h]
          exact h
      refine ⟨xs, hD5, Nat.lt_of_le_of_lt (Nat.le_trans (by rw [hacc5.length]; omega) hlen) (by decide), μ5, s5, acc ++ [y], xs ++ [v], bump gt5 hD5, nD5, hs5.aside nD5 hD5, upd_same, ?_, by rw [List.length_append, List.length_singleton]; omega, hi, ?_⟩
      · exact RepL.heap gL.1 gL.2 _ _ (hacc5.append (.cons hy .nil))
      · refine cast ?_ p5
        congr 1
        refine congrArg (fun z : M D => z s5) (m_congr fun ys => ?_)
        rw [List.append_assoc]
        rfl
  · left
    have ei : i = r.items.length := by omega
    subst ei
    rw [List.drop_length] at p
    have e1 : (collM r g t e (wipeE env vs) [] >>= fun ys => allocC (.lst (acc ++ ys))) = (guardM r >>= fun _ => allocC (.lst acc)) := by
      show ((guardM r >>= fun _ => (Pure.pure [] : M (List D))) >>= fun ys => allocC (.lst (acc ++ ys))) = _
      rw [m_assoc]
      refine m_congr fun _ => ?_
      show allocC (.lst (acc ++ [])) = _
      rw [List.append_nil]
    rw [e1] at p
    obtain ⟨ok, p2⟩ := guard_ok p
    refine ⟨(hJ μ' H s' g1 hs' ok).2, ?_⟩
    have at1 : ∀ {j : Nat} {b : Addr}, μ'[j]? = some b → (μ' ++ [Dl])[j]? = some b := fun q => by
      rw [List.getElem?_append_left (List.getElem?_eq_some_iff.mp q).1]
      exact q
    have hs2 : SimS K (μ' ++ [Dl]) H (s' ++ [.lst acc]) := hs'.join nD' ⟨xs, hD, RepL.more at1 _ _ hacc⟩
    refine p2 _ H (grow_join g1 hDn) hs2 (.ref Dl) (.ptr ?_)
    rw [← hs'.len, List.getElem?_append_right (Nat.le_refl _)]
    simp
end
end PL

/-! PL5: comprehensions' rules, statements, loops, a def's promise. -/
namespace PL
open PySem PySem.Spec PyProof.Rows L2

theorem wipe_get (σ : L2.St) (j : Nat) : ∀ vs : List Nat, (wipe σ vs)[j]? = if j ∈ vs then (σ[j]?).map (fun _ => none) else σ[j]?
  | [] => by
    rw [if_neg List.not_mem_nil]
    rfl
  | v :: vs => by
    have ih := wipe_get σ j vs
    show ((wipe σ vs).set v none)[j]? = _
    by_cases hv : v = j
    · subst hv
      rw [if_pos List.mem_cons_self]
      by_cases hl : v < (wipe σ vs).length
      · rw [List.getElem?_set_self hl]
        rw [wipe_length] at hl
        rw [List.getElem?_eq_getElem hl]
        rfl
      · rw [List.getElem?_eq_none (by rw [List.length_set]; omega)]
        rw [wipe_length] at hl
        rw [List.getElem?_eq_none (by omega)]
        rfl
    · rw [List.getElem?_set_ne hv, ih]
      have e : (j ∈ v :: vs) = (j ∈ vs) := by
        rw [List.mem_cons]
        exact propext ⟨fun h => h.elim (fun z => absurd z.symm hv) id, .inr⟩
      simp only [e]
theorem wipe_same {σ σ2 : L2.St} {vs : List Nat} (hl : σ2.length = σ.length) (h : ∀ j, j ∉ vs → σ2[j]? = σ[j]?) : wipe σ2 vs = wipe σ vs := by
  refine List.ext_getElem? fun j => ?_
  rw [wipe_get, wipe_get]
  by_cases hj : j ∈ vs
  · rw [if_pos hj, if_pos hj]
    by_cases h1 : j < σ.length
    · rw [List.getElem?_eq_getElem h1, List.getElem?_eq_getElem (by omega)]
      rfl
    · rw [List.getElem?_eq_none (by omega), List.getElem?_eq_none (by omega)]
  · rw [if_neg hj, if_neg hj, h j hj]
section
variable {X : Cx} {E : XK} {elt tg iter : Expr} {ifs : List Expr} {scope : Scope} {pos : Pos} {mi : Env → M Src} {t : Env → M Bool} {e : Env → M D}
/-- the slots that a target stores to -/
def GtOk (K : PySem.W.Frag) (E : XK) (g : D → Env → M Env) (gt : TG) (vs : List Nat) : Prop := ∀ v σ H Qg, TGof K E g v (wipe σ vs) H Qg → gt v (wipe σ vs) H fun σ2 H2 => wipe σ2 vs = wipe σ vs ∧ Qg σ2 H2
theorem te_comp {K : PySem.W.Frag} {g : D → Env → M Env} {gt : TG} {vs : List Nat} (hg : GtOk K E g gt vs) : ∀ σ H Q, TEof K E (compM mi g t e vs) σ H Q → tLc (TIof K E mi) gt (TTof K E t) (TEof K E e) vs σ H Q := by
  rintro σ H Q ⟨μ, env, s, hv, hs, post⟩
  refine ⟨μ, env, s, hv, hs, (Post.bind post).mono fun r s1 μ1 H1 g1 hs1 p1 J hJ Dl hD => ?_⟩
  by_cases hl : r.items.length ≤ 100000
  · have e1 : szM r.items.length = (Pure.pure () : M Unit) := if_pos hl
    rw [e1] at p1
    exact lc_ok (hv.grow g1) hs1 hJ hl hD (fun v H Qg => hg v σ H Qg) p1
  · have e1 : szM r.items.length = (stuck : M Unit) := if_neg hl
    rw [e1] at p1
    exact (show False from p1).elim
theorem gt_name {K : PySem.W.Frag} {i : Nat} {vs : List Nat} (hi : i ∈ vs) : GtOk K E (gNm i) (gName i) vs := by
  rintro v σ H Qg ⟨μ, env, s, d, hv, hs, r, post⟩
  refine ⟨?_, Post.now (a := env.set i (some d)) post hs _ (hv.set r i)⟩
  have e1 : wipe ((wipe σ vs).set i (some v)) vs = wipe (wipe σ vs) vs := wipe_same (by rw [List.length_set]) fun j hj => by
    rw [List.getElem?_set_ne (show i ≠ j from fun z => hj (z ▸ hi))]
  rw [e1]
  refine List.ext_getElem? fun j => ?_
  rw [wipe_get, wipe_get]
  by_cases hj : j ∈ vs
  · rw [if_pos hj, if_pos hj, Option.map_map]
    rfl
  · rw [if_neg hj, if_neg hj]
theorem wipe_wipe (σ : L2.St) (vs : List Nat) : wipe (wipe σ vs) vs = wipe σ vs := by
  refine List.ext_getElem? fun j => ?_
  rw [wipe_get, wipe_get]
  by_cases hj : j ∈ vs
  · rw [if_pos hj, if_pos hj, Option.map_map]
    rfl
  · rw [if_neg hj, if_neg hj]
theorem gt_two {K : PySem.W.Frag} {i j : Nat} {vs : List Nat} (hi : i ∈ vs) (hj : j ∈ vs) : GtOk K E (gTupM 2 (gConsM (gNm i) (gConsM (gNm j) gNilM))) (gTup K 2 (gCons (gName i) (gCons (gName j) gNil))) vs := by
  rintro v σ H Qg ⟨μ, env, s, d, hv, hs, r, post⟩
  cases r with
  | @tup a xs ds ht hl =>
    cases hl with
    | nil => exact (show False from post).elim
    | @cons x xs d ds r1 l1 =>
      cases l1 with
      | nil => exact (show False from post).elim
      | @cons y ys e es r2 l2 =>
        cases l2 with
        | nil =>
          refine ⟨a, [x, y], rfl, ht, rfl, x, [y], rfl, y, [], rfl, rfl, ?_, Post.now (a := (env.set i (some d)).set j (some e)) post hs _ ((hv.set r1 i).set r2 j)⟩
          refine (wipe_same (σ := wipe σ vs) (by rw [List.length_set, List.length_set]) fun k hk => ?_).trans (wipe_wipe σ vs)
          rw [List.getElem?_set_ne (show j ≠ k from fun z => hk (z ▸ hj)), List.getElem?_set_ne (show i ≠ k from fun z => hk (z ▸ hi))]
        | cons r3 l3 => exact (show False from post).elim
  | _ => exact (show False from post).elim
theorem se_comp {g : D → Env → M Env} {gt : TG} {own : List (Str × Nat)} (hc : X.calm = true) (hN : X.N.Nodup) (hi : SI X E tg iter mi) (ok : BlkOk X.N X.env.scope scope own) (hgt : GtOk X.K E g gt (own.map (·.2)))
    (hg : ∀ (s : Shared) (H : Hp) (C : Addr) (cl : List (Str × Addr)) (fp : List Addr), PG (X.blk s H scope (compEnvC scope cl C X.env) fp) tg gt) (ht : ∀ (s : Shared) (H : Hp) (C : Addr) (cl : List (Str × Addr)) (fp : List Addr), STs (X.blk s H scope (compEnvC scope cl C X.env) fp) E ifs t)
    (he : ∀ (s : Shared) (H : Hp) (C : Addr) (cl : List (Str × Addr)) (fp : List Addr), SE (X.blk s H scope (compEnvC scope cl C X.env) fp) E elt e) (hs : ∀ x, foldedSetIterable iter X.env x = pure x := by intro _; rfl) :
    SE X E (.ListComp elt [⟨tg, iter, ifs, 0⟩] scope pos) (compM mi g t e (own.map (·.2))) := PE.imp (pe_lc (tt := TTof X.K E t) (te := TEof X.K E e) hc hN hi ok hg ht he hs) (te_comp hgt)
end

/-! ### statements -/
def nxS (env : Env) : M Out := pure (.nx env)
def seqS (m n : Env → M Out) (env : Env) : M Out := m env >>= fun o => match o with
  | .nx env' => n env'
  | o => pure o
def asgS (me : Env → M D) (g : D → Env → M Env) (env : Env) : M Out := me env >>= fun d => g d env >>= fun env' => pure (.nx env')
def setS (i : Nat) (me : Env → M D) (env : Env) : M Out := me env >>= fun d => pure (.nx (env.set i (some d)))
def dropS (me : Env → M D) (env : Env) : M Out := me env >>= fun _ => pure (.nx env)
def retS (me : Env → M D) (env : Env) : M Out := me env >>= fun d => pure (.rt d)
def retNS (_ : Env) : M Out := pure (.rt .non)
def brkS (env : Env) : M Out := pure (.bk env)
def contS (env : Env) : M Out := pure (.ct env)
def ifS (c : Env → M Bool) (m n : Env → M Out) (env : Env) : M Out := c env >>= fun b => if b then m env else n env
def parS (i j : Nat) (ma mb : Env → M D) (env : Env) : M Out := ma env >>= fun a => mb env >>= fun b => pure (.nx ((env.set i (some a)).set j (some b)))
def augS (i : Nat) (f : D → D → M D) (me : Env → M D) (env : Env) : M Out := varM i env >>= fun x => me env >>= fun y => f x y >>= fun z => pure (.nx (env.set i (some z)))
noncomputable def loopM (r : Src) (g : D → Env → M Env) (b : Env → M Out) : List D → Env → M Out
  | [], env => guardM r >>= fun _ => pure (.nx env)
  | d :: ds, env => guardM r >>= fun _ => g d env >>= fun env1 => b env1 >>= fun o => match o with
    | .nx env2 => loopM r g b ds env2
    | .ct env2 => loopM r g b ds env2
    | .bk env2 => pure (.nx env2)
    | .rt d => pure (.rt d)
noncomputable def forS (mi : Env → M Src) (g : D → Env → M Env) (b : Env → M Out) (env : Env) : M Out := mi env >>= fun r => loopM r g b r.items env
def whileN (c : Env → M Bool) (b : Env → M Out) : Nat → Env → M Out
  | 0, _ => stuck
  | k + 1, env => c env >>= fun t => if t then (b env >>= fun o => match o with
    | .nx env2 => whileN c b k env2
    | .ct env2 => whileN c b k env2
    | .bk env2 => pure (.nx env2)
    | .rt d => pure (.rt d)) else pure (.nx env)
open Classical in
noncomputable def whileS (c : Env → M Bool) (b : Env → M Out) (env : Env) : M Out := fun s => if h : ∃ k, whileN c b k env s ≠ .stuck then whileN c b (Classical.choose h) env s else .stuck
section
variable {X : Cx} {E : XK} {e a b tg : Expr} {ma mb me : Env → M D} {pos p : Pos} {m n : Env → M Out} {st : Stmt} {sts : List Stmt} {c : Expr} {mc : Env → M Bool}
theorem okO_next {K : PySem.W.Frag} {μ : List Addr} {H : Hp} {s : S} {env : Env} {σ : L2.St} {Dd : Ends} (hs : SimS K μ H s) (hv : SimV K μ H σ env) (post : Post K E μ H (.ok (.nx env) s) (okO K Dd)) : Dd.nx σ H := Post.now post hs σ hv
theorem sss_nil : SSs X E [] nxS := PSs.imp pss_nil (by
  rintro Dd σ H ⟨μ, env, s, hv, hs, post⟩
  exact okO_next hs hv post)
theorem ts_seq {K : PySem.W.Frag} : ∀ Dd σ H, TSof K E (seqS m n) Dd σ H → tSeq (TSof K E m) (TSof K E n) Dd σ H := by
  rintro Dd σ H ⟨μ, env, s, hv, hs, post⟩
  refine ⟨μ, env, s, hv, hs, (Post.bind post).mono fun o s1 μ1 H1 g1 hs1 p1 => ?_⟩
  cases o with
  | nx env1 => exact fun σ1 hv1 => ⟨μ1, env1, s1, hv1, hs1, p1⟩
  | rt d => exact Post.now (E := E) (a := Out.rt d) p1 hs1
  | bk env1 => exact Post.now (E := E) (a := Out.bk env1) p1 hs1
  | ct env1 => exact Post.now (E := E) (a := Out.ct env1) p1 hs1
theorem sss_cons (h1 : SS X E st m) (h2 : SSs X E sts n) : SSs X E (st :: sts) (seqS m n) := PSs.imp (pss_cons h1 h2) ts_seq
theorem sss_one (h1 : SS X E st m) : SSs X E [st] m := pss_one h1
theorem ss_pass : SS X E (.Pass pos) nxS := PS.imp ps_pass (by
  rintro Dd σ H ⟨μ, env, s, hv, hs, post⟩
  exact okO_next hs hv post)
theorem ss_break : SS X E (.Break pos) brkS := PS.imp ps_break (by
  rintro Dd σ H ⟨μ, env, s, hv, hs, post⟩
  exact Post.now (E := E) (a := Out.bk env) post hs σ hv)
theorem ss_continue : SS X E (.Continue pos) contS := PS.imp ps_continue (by
  rintro Dd σ H ⟨μ, env, s, hv, hs, post⟩
  exact Post.now (E := E) (a := Out.ct env) post hs σ hv)
theorem ss_expr (he : SE X E e me) (hs : swapsWith e none pos.line X.env = pure false := by rfl) : SS X E (.Expr e pos) (dropS me) := PS.imp (ps_expr he hs) (by
  rintro Dd σ H ⟨μ, env, s, hv, hs, post⟩
  exact ⟨μ, env, s, hv, hs, (Post.bind post).mono fun d s1 μ1 H1 g1 hs1 p1 v hr => okO_next hs1 (hv.grow g1) p1⟩)
theorem ss_ret (he : SE X E e me) : SS X E (.Return (some e) pos) (retS me) := PS.imp (ps_ret he) (by
  rintro Dd σ H ⟨μ, env, s, hv, hs, post⟩
  exact ⟨μ, env, s, hv, hs, (Post.bind post).mono fun d s1 μ1 H1 g1 hs1 p1 v hr => Post.now (E := E) (a := Out.rt d) p1 hs1 v hr⟩)
theorem ss_retN : SS X E (.Return none pos) retNS := PS.imp ps_retN (by
  rintro Dd σ H ⟨μ, env, s, hv, hs, post⟩
  exact Post.now (E := E) (a := Out.rt .non) post hs .non .non)
theorem ss_if {A B : List Stmt} (hc : ST X E c mc) (ha : SSs X E A m) (hb : SSs X E B n) : SS X E (.If c A B pos) (ifS mc m n) := PS.imp (ps_if hc ha hb) (by
  rintro Dd σ H ⟨μ, env, s, hv, hs, post⟩
  refine ⟨μ, env, s, hv, hs, (Post.bind post).mono fun k s1 μ1 H1 g1 hs1 p1 => ?_⟩
  show if k = true then _ else _
  cases k with
  | true => exact ⟨μ1, env, s1, hv.grow g1, hs1, p1⟩
  | false => exact ⟨μ1, env, s1, hv.grow g1, hs1, p1⟩)
theorem ts_asg {K : PySem.W.Frag} {g : D → Env → M Env} : ∀ Dd σ H, TSof K E (asgS me g) Dd σ H → tAsg (TEof K E me) (TGof K E g) Dd σ H := by
  rintro Dd σ H ⟨μ, env, s, hv, hs, post⟩
  refine ⟨μ, env, s, hv, hs, (Post.bind post).mono fun d s1 μ1 H1 g1 hs1 p1 v hr => ?_⟩
  exact ⟨μ1, env, s1, d, hv.grow g1, hs1, hr, (Post.bind p1).mono fun env2 s2 μ2 H2 g2 hs2 p2 σ2 hv2 => okO_next hs2 hv2 p2⟩
theorem ss_asg {g : D → Env → M Env} (he : SE X E e me) (hg : SG X E tg g) (hs : swapsWithSole [tg] e pos.line X.env = pure false := by rfl) (hw : swappedStores [tg] e X.env = pure none := by rfl) (h1 : (assignEach [tg] X.env).map (·.2) = [assign tg X.env] := by rfl) : SS X E (.Assign [tg] e pos) (asgS me g) := PS.imp (ps_asg he hg hs hw h1) ts_asg
theorem ts_set {K : PySem.W.Frag} {i : Nat} {t : TE} (ht : ∀ σ H Q, TEof K E me σ H Q → t σ H Q) : ∀ Dd σ H, TSof K E (setS i me) Dd σ H → tAsg t (gName i) Dd σ H := by
  rintro Dd σ H ⟨μ, env, s, hv, hs, post⟩
  exact ht _ _ _ ⟨μ, env, s, hv, hs, (Post.bind post).mono fun d s1 μ1 H1 g1 hs1 p1 v hr => okO_next hs1 ((hv.grow g1).set hr i) p1⟩
theorem ss_set (i : Nat) {x : Str} {pos' : Pos} (hN : X.N.Nodup) (he : SE X E e me) (hi : X.N[i]? = some x := by rfl) (hx : Loc X.env.scope x := by first | exact Or.inl rfl | exact Or.inr rfl) (hs : swapsWith e (some (.Name x pos')) pos.line X.env = pure false := by rfl) (hf : X.fn x = true ∨ X.env.scope.names.lookup x = some .local := by first | exact .inl rfl | exact .inr rfl | assumption) :
    SS X E (.Assign [.Name x pos'] e pos) (setS i me) := PS.imp (ps_set hN hi hx he hs hf) (ts_set fun _ _ _ h => h)
theorem ss_setComp {elt iter : Expr} {ifs : List Expr} {scope : Scope} {mi : Env → M Src} {t : Env → M Bool} {ee : Env → M D} (i : Nat) {y : Str} {py spos : Pos} {g : D → Env → M Env} {gt : TG} {own : List (Str × Nat)} (hc : X.calm = true) (hN : X.N.Nodup) (hi : SI X E tg iter mi) (ok : BlkOk X.N X.env.scope scope own) (hgt : GtOk X.K E g gt (own.map (·.2)))
    (hg : ∀ (s : Shared) (H : Hp) (C : Addr) (cl : List (Str × Addr)) (fp : List Addr), PG (X.blk s H scope (compEnvC scope cl C X.env) fp) tg gt) (ht : ∀ (s : Shared) (H : Hp) (C : Addr) (cl : List (Str × Addr)) (fp : List Addr), STs (X.blk s H scope (compEnvC scope cl C X.env) fp) E ifs t)
    (he : ∀ (s : Shared) (H : Hp) (C : Addr) (cl : List (Str × Addr)) (fp : List Addr), SE (X.blk s H scope (compEnvC scope cl C X.env) fp) E elt ee) (hy : X.N[i]? = some y := by rfl) (hyl : X.env.scope.names.lookup y = some .local := by rfl)
    (hsw : swapsWith (.ListComp elt [⟨tg, iter, ifs, 0⟩] scope pos) (some (.Name y py)) spos.line X.env = pure true := by exact sw_true rfl rfl rfl (by decide +kernel)) (hs : ∀ x, foldedSetIterable iter X.env x = pure x := by intro _; rfl) :
    SS X E (.Assign [.Name y py] (.ListComp elt [⟨tg, iter, ifs, 0⟩] scope pos) spos) (setS i (compM mi g t ee (own.map (·.2)))) := PS.imp (ps_setLc (tt := TTof X.K E t) (te := TEof X.K E ee) hc hN hy hyl hsw hi ok hg ht he hs) (ts_set (te_comp hgt))
theorem ss_par (i j : Nat) {x y : Str} {px py pt : Pos} {kt : Nat} {k2 : Nat} {pt2 : Pos} (hc : X.calm = true) (hN : X.N.Nodup) (ha : SE X E a ma) (hb : SE X E b mb) (hi : X.N[i]? = some x := by rfl) (hj : X.N[j]? = some y := by rfl) (hij : i ≠ j := by decide)
    (hx : X.env.scope.names.lookup x = some .local := by rfl) (hy : X.env.scope.names.lookup y = some .local := by rfl) (hst : starEach [a, b] X.env = (false, eval a X.env) :: starEach [b] X.env := by rfl) (hst2 : starEach [b] X.env = (false, eval b X.env) :: starEach [] X.env := by rfl)
    (hw : swappedStores [.Tuple [.Name x px, .Name y py] kt pt] (.Tuple [a, b] k2 pt2) X.env = pure (some [x, y]) := by rfl)
    (hs : swapsWithSole [.Tuple [.Name x px, .Name y py] kt pt] (.Tuple [a, b] k2 pt2) pos.line X.env = pure false := by rfl) :
    SS X E (.Assign [.Tuple [.Name x px, .Name y py] kt pt] (.Tuple [a, b] k2 pt2) pos) (parS i j ma mb) := PS.imp (ps_par hc hN hi hj hij hx hy (pa_cons ha (pa_cons hb pa_nil hst2) hst) hw hs) (by
  rintro Dd σ H ⟨μ, env, s, hv, hs, post⟩
  refine ⟨μ, env, s, hv, hs, (Post.bind post).mono fun d s1 μ1 H1 g1 hs1 p1 v hr => ?_⟩
  refine ⟨μ1, env, s1, hv.grow g1, hs1, (Post.bind p1).mono fun e s2 μ2 H2 g2 hs2 p2 w hw => ?_⟩
  exact ⟨v, w, rfl, okO_next hs2 ((((hv.grow g1).grow g2).set (Rep.grow g2 _ _ hr) i).set hw j) p2⟩)
theorem ip_addD : PIp X .Add (R2of X.K E (int2 fun i j => .int (i + j))) := by
  intro pins s σ H x y v u Q I rx ry h
  obtain ⟨μ, st, dx, dy, hs, hx, hy, post⟩ := h
  obtain ⟨i, j, rfl, rfl, p⟩ := int2_rep hs hx hy post
  exact ip_add pins s σ H _ _ v u Q I rx ry ⟨i, j, rfl, rfl, post_int hs p⟩
theorem ip_subD : PIp X .Sub (R2of X.K E (int2 fun i j => .int (i - j))) := by
  intro pins s σ H x y v u Q I rx ry h
  obtain ⟨μ, st, dx, dy, hs, hx, hy, post⟩ := h
  obtain ⟨i, j, rfl, rfl, p⟩ := int2_rep hs hx hy post
  exact ip_sub pins s σ H _ _ v u Q I rx ry ⟨i, j, rfl, rfl, post_int hs p⟩
theorem ss_aug (i : Nat) {x : Str} {op : Operator} {f : D → D → M D} {pos' : Pos} (hN : X.N.Nodup) (ho : PIp X op (R2of X.K E f)) (he : SE X E e me) (hi : X.N[i]? = some x := by rfl) (hx : Loc X.env.scope x := by first | exact Or.inl rfl | exact Or.inr rfl) (hf : X.fn x = true ∨ X.env.scope.names.lookup x = some .local := by first | exact .inl rfl | exact .inr rfl | assumption) :
    SS X E (.AugAssign (.Name x pos') op e pos) (augS i f me) := PS.imp (ps_aug hN hi hx he ho hf) (by
  rintro Dd σ H ⟨μ, env, s, hv, hs, post⟩
  unfold augS varM at post
  cases ee : env[i]? with
  | none => rw [ee] at post; exact (show False from post).elim
  | some o =>
    cases o with
    | none => rw [ee] at post; exact (show False from post).elim
    | some d =>
      rw [ee] at post
      obtain ⟨v, h1, h2⟩ := hv.val i d ee
      have post2 : Post X.K E μ H ((me env >>= fun y => f d y >>= fun z => Pure.pure (Out.nx (env.set i (some z)))) s) (okO X.K Dd) := post
      refine ⟨v, h1, μ, env, s, hv, hs, (Post.bind post2).mono fun y s1 μ1 H1 g1 hs1 p1 w hr => ?_⟩
      refine ⟨μ1, s1, d, y, hs1, Rep.grow g1 d v h2, hr, (Post.bind p1).mono fun z s2 μ2 H2 g2 hs2 p2 u hu => ?_⟩
      exact okO_next hs2 (((hv.grow g1).grow g2).set hu i) p2)
theorem whileN_mono {b : Env → M Out} : ∀ (k : Nat) (env : Env) (s : S), whileN mc b k env s ≠ .stuck → ∀ j, whileN mc b (k + j) env s = whileN mc b k env s
  | 0, env, s, h, j => absurd rfl h
  | k + 1, env, s, h, j => by
    rw [Nat.add_right_comm]
    unfold whileN at h ⊢
    rw [bind_run] at h ⊢
    cases e1 : mc env s with
    | stuck => rw [bind_run, e1]
    | exc c s1 => rw [bind_run, e1]
    | ok t s1 =>
      rw [e1] at h
      rw [bind_run, e1]
      cases t with
      | false => rfl
      | true =>
        simp only [if_true] at h ⊢
        rw [bind_run] at h ⊢
        cases e2 : b env s1 with
        | stuck => rw [bind_run, e2]
        | exc c s2 => rw [bind_run, e2]
        | ok o s2 =>
          rw [e2] at h
          rw [bind_run, e2]
          cases o with
          | nx env2 => exact whileN_mono k env2 s2 h j
          | ct env2 => exact whileN_mono k env2 s2 h j
          | bk env2 => rfl
          | rt d => rfl
theorem whileS_eq {b : Env → M Out} {k : Nat} {env : Env} {s : S} (h : whileN mc b k env s ≠ .stuck) : whileS mc b env s = whileN mc b k env s := by
  have hx : ∃ k, whileN mc b k env s ≠ .stuck := ⟨k, h⟩
  have hc := Classical.choose_spec hx
  have e1 : whileS mc b env s = whileN mc b (Classical.choose hx) env s := dif_pos hx
  rw [e1, ← whileN_mono _ env s hc k, ← whileN_mono k env s h (Classical.choose hx), Nat.add_comm]
theorem ss_while {body : List Stmt} (hp : PassesOwn (model X.prog X.w) X.A X.env X.xe) (hc : ST X E c mc) (hb : SSs X E body m) : SS X E (.While c body [] pos) (whileS mc m) := PS.imp (ps_while hp hc hb) (by
  rintro Dd σ H ⟨μ, env, s, hv, hs, post⟩
  by_cases hx : ∃ k, whileN mc m k env s ≠ .stuck
  · have e1 : whileS mc m env s = whileN mc m (Classical.choose hx) env s := dif_pos hx
    rw [e1] at post
    let W : Nat → L2.St → Hp → Prop := fun k σ' H' => ∃ μ' env' s', SimV X.K μ' H' σ' env' ∧ SimS X.K μ' H' s' ∧ Post X.K E μ' H' (whileN mc m k env' s') (okO X.K Dd)
    refine ⟨W, ⟨_, μ, env, s, hv, hs, post⟩, ?_⟩
    rintro k σ' H' ⟨μ', env', s', hv', hs', p⟩
    cases k with
    | zero => exact (show False from p).elim
    | succ k =>
      refine ⟨μ', env', s', hv', hs', (Post.bind (show Post X.K E μ' H' ((mc env' >>= _) s') (okO X.K Dd) from p)).mono fun b s1 μ1 H1 g1 hs1 p1 => ?_⟩
      show if b = true then _ else _
      cases b with
      | false => exact okO_next hs1 (hv'.grow g1) p1
      | true =>
        refine ⟨W k, fun σ2 H2 q => ⟨k, Nat.lt_succ_self k, q⟩, μ1, env', s1, hv'.grow g1, hs1, (Post.bind p1).mono fun o s2 μ2 H2 g2 hs2 p2 => ?_⟩
        cases o with
        | nx env2 => exact fun σ2 hv2 => ⟨μ2, env2, s2, hv2, hs2, p2⟩
        | ct env2 => exact fun σ2 hv2 => ⟨μ2, env2, s2, hv2, hs2, p2⟩
        | bk env2 => exact fun σ2 hv2 => okO_next hs2 hv2 p2
        | rt d => exact Post.now (E := E) (a := Out.rt d) p2 hs2
  · have e1 : whileS mc m env s = .stuck := dif_neg hx
    rw [e1] at post
    exact (show False from post).elim)
theorem ss_for {iter : Expr} {body : List Stmt} {mi : Env → M Src} {g : D → Env → M Env} (hp : PassesOwn (model X.prog X.w) X.A X.env X.xe) (hc : X.calm = true) (hi : SI X E tg iter mi) (hg : SG X E tg g) (hb : SSs X E body m)
    (hs : ∀ x, foldedSetIterable iter X.env x = pure x := by intro _; rfl) : SS X E (.For tg iter body [] pos) (forS mi g m) := PS.imp (ps_for hp hc hi hg hb hs) (by
  rintro Dd σ H ⟨μ, env, s, hv, hs, post⟩
  refine ⟨μ, env, s, hv, hs, (Post.bind post).mono fun r s1 μ1 H1 g1 hs1 p1 J hJ => ?_⟩
  let W : Nat → Nat → L2.St → Hp → Prop := fun i k σ' H' => k = r.items.length - i ∧ ∃ μ' env' s', Grow μ1 H1 μ' H' ∧ SimV X.K μ' H' σ' env' ∧ SimS X.K μ' H' s' ∧ i ≤ r.items.length ∧ Post X.K E μ' H' (loopM r g m (r.items.drop i) env' s') (okO X.K Dd)
  refine ⟨W, ⟨_, rfl, μ1, env, s1, Grow.refl _ _, hv.grow g1, hs1, Nat.zero_le _, p1⟩, ?_⟩
  rintro i k σ' H' ⟨rfl, μ', env', s', g2, hv', hs', hile, p⟩
  by_cases hi : i < r.items.length
  · right
    have hd : r.items[i]? = some r.items[i] := List.getElem?_eq_getElem hi
    rw [List.drop_eq_getElem_cons hi] at p
    obtain ⟨ok, p2⟩ := guard_ok (show Post X.K E μ' H' ((guardM r >>= _) s') (okO X.K Dd) from p)
    obtain ⟨go, yl⟩ := (hJ μ' H' s' g2 hs' ok).1 i _ hd
    refine ⟨go, fun σ3 H3 => W (i + 1) (r.items.length - (i + 1)) σ3 H3, fun σ3 H3 q => ⟨_, by omega, q⟩, fun x H3 y => ?_⟩
    obtain ⟨g3, hs3, rx⟩ := yl x H3 y
    refine ⟨μ', env', s', _, hv'.grow g3, hs3, rx, (Post.bind (Post.later g3 p2)).mono fun env4 s4 μ4 H4 g4 hs4 p4 σ4 hv4 => ?_⟩
    refine ⟨μ4, env4, s4, hv4, hs4, (Post.bind p4).mono fun o s5 μ5 H5 g5 hs5 p5 => ?_⟩
    have gg := (g2.trans g3).trans (g4.trans g5)
    cases o with
    | nx env5 => exact fun σ5 hv5 => ⟨rfl, μ5, env5, s5, gg, hv5, hs5, hi, p5⟩
    | ct env5 => exact fun σ5 hv5 => ⟨rfl, μ5, env5, s5, gg, hv5, hs5, hi, p5⟩
    | bk env5 => exact fun σ5 hv5 => okO_next hs5 hv5 p5
    | rt d => exact Post.now (E := E) (a := Out.rt d) p5 hs5
  · left
    have ei : i = r.items.length := by omega
    subst ei
    rw [List.drop_length] at p
    obtain ⟨ok, p2⟩ := guard_ok (show Post X.K E μ' H' ((guardM r >>= _) s') (okO X.K Dd) from p)
    exact ⟨(hJ μ' H' s' g2 hs' ok).2, okO_next hs' hv' p2⟩)
end

/-! ### methods of lists -/
def isL (x : D) : M Unit := match x with
  | .ptr n => fun s => match s[n]? with
    | some (.lst _) => .ok () s
    | _ => .stuck
  | _ => stuck
def methM (f : D → List D → M D) (mo : Env → M D) (ma : Env → M (List D)) (env : Env) : M D := mo env >>= fun x => isL x >>= fun _ => ma env >>= fun ds => f x ds
def putC (n : Nat) (c : Cell) (d : D) : M D := fun s => .ok d (s.set n c)
def lstOf (x : D) (k : Nat → List D → M D) : M D := match x with
  | .ptr n => fun s => match s[n]? with
    | some (.lst ds) => k n ds s
    | _ => .stuck
  | _ => stuck
def appendD (x : D) (as : List D) : M D := lstOf x fun n ds => match as with
  | [d] => if ds.length ≤ 100000 then putC n (.lst (ds ++ [d])) .non else stuck
  | _ => stuck
def popD (x : D) (as : List D) : M D := lstOf x fun n ds => match as with
  | [] => (match ds[ds.length - 1]? with
    | some d => putC n (.lst ds.dropLast) d
    | none => stuck)
  | _ => stuck
theorem lstOf_rep {K : PySem.W.Frag} {E : XK} {μ : List Addr} {H : Hp} {s : S} {x : D} {v : V} {k : Nat → List D → M D} {q : D → S → List Addr → Hp → Prop} (hs : SimS K μ H s) (r : Rep K μ H v x) (post : Post K E μ H (lstOf x k s) q) :
    ∃ a n ds xs, v = .ref a ∧ μ[n]? = some a ∧ s[n]? = some (.lst ds) ∧ H a = some (.lst xs) ∧ RepL K μ H xs ds ∧ Post K E μ H (k n ds s) q := by
  unfold lstOf at post
  cases r with
  | @ptr a n hn =>
    cases ec : s[n]? with
    | none => simp only [ec] at post; exact (show False from post).elim
    | some cl =>
      simp only [ec] at post
      cases cl with
      | lst ds =>
        obtain ⟨xs, h1, h2⟩ := cell_lst hs hn ec
        exact ⟨a, n, ds, xs, rfl, hn, ec, h1, h2, post⟩
      | dK kvs => exact (show False from post).elim
      | dT kvs => exact (show False from post).elim
      | ins C fs => exact (show False from post).elim
  | _ => exact (show False from post).elim
theorem put_lst {K : PySem.W.Frag} {E : XK} {μ : List Addr} {H : Hp} {s : S} {n : Nat} {a : Addr} {xs ys : List V} {ds : List D} {d : D} {v : V} {Q : VK} (hs : SimS K μ H s) (hn : μ[n]? = some a) (h : H a = some (.lst xs)) (l : RepL K μ H ys ds) (r : Rep K μ H v d)
    (post : Post K E μ H (putC n (.lst ds) d s) (okD K Q)) : Q v (upd H a (.lst ys)) := by
  have hm : Mut (H a) := by rw [h]; trivial
  have g := grow_put (μ := μ) (H := H) (a := a) (o := .lst ys) hm (List.mem_of_getElem? hn)
  exact post _ _ g (hs.put hn hm ⟨_, upd_same, RepL.grow g _ _ l⟩) v (Rep.grow g _ _ r)
section
variable {X : Cx} {E : XK} {o e : Expr} {es : List Expr} {mo : Env → M D} {ma : Env → M (List D)} {apos cpos : Pos} {name : Str} {id : String}
theorem te_meth {K : PySem.W.Frag} {f : D → List D → M D} {r : V → List V → Hp → VK → Prop} (hr : ∀ x xs H Q, RMof K E f x xs H Q → r x xs H Q) : ∀ σ H Q, TEof K E (methM f mo ma) σ H Q → tBM K "list" r (TEof K E mo) (TAof K E ma) σ H Q := by
  rintro σ H Q ⟨μ, env, s, hv, hs, post⟩
  refine ⟨μ, env, s, hv, hs, (Post.bind post).mono fun x s1 μ1 H1 g1 hs1 p1 v hx => ?_⟩
  rw [bind_run] at p1
  unfold isL at p1
  cases hx with
  | @ptr a n hn =>
    cases ec : s1[n]? with
    | none => simp only [ec] at p1; exact (show False from p1).elim
    | some cl =>
      simp only [ec] at p1
      cases cl with
      | lst ds =>
        obtain ⟨xs, h1, h2⟩ := cell_lst hs1 hn ec
        refine ⟨.inl ⟨rfl, xs, SqL.of h1⟩, μ1, env, s1, hv.grow g1, hs1, (Post.bind p1).mono fun ds2 s2 μ2 H2 g2 hs2 p2 vs hl => ?_⟩
        exact hr _ _ _ _ ⟨μ2, s2, _, ds2, hs2, .ptr (g2.at hn), hl, p2⟩
      | dK kvs => exact (show False from p1).elim
      | dT kvs => exact (show False from p1).elim
      | ins C fs => exact (show False from p1).elim
  | _ => exact (show False from p1).elim
theorem se_append (ho : SE X E o mo) (ha : SA X E [e] ma) (hbase : attributeBase o "append" X.env (eval o X.env) = eval o X.env := by rfl)
    (hline : (apos.endLine == cpos.line) = true := by rfl) (hs : starEach [e] X.env = (false, eval e X.env) :: starEach [] X.env := by rfl) : SE X E (.Call (.Attribute o "append" apos) [e] [] cpos) (methM appendD mo ma) := PE.imp (pe_bm PySem.F.plainAttrs_list PySem.F.slot_list_append PySem.F.type_list_append mt_append ho ha hbase (by rw [hs]; rfl) hline hs rfl) (te_meth (by
  rintro x xs H Q ⟨μ, s, dx, ds, hs, hx, hl, post⟩
  obtain ⟨a, n, es, ys, rfl, hn, ec, h1, h2, p⟩ := lstOf_rep hs hx post
  cases hl with
  | nil => exact (show False from p).elim
  | cons r t =>
    cases t with
    | nil =>
      simp only [] at p
      split at p
      · rename_i hz
        exact ⟨a, ys, _, rfl, rfl, h1, Nat.lt_of_le_of_lt (by rw [h2.length]; exact hz) (by decide), put_lst hs hn h1 (h2.append (.cons r .nil)) .non p⟩
      · exact (show False from p).elim
    | cons r' t' => exact (show False from p).elim))
end

/-! ### a def -/
def startE (N : Nat) (ds : List D) : Env := ds.map some ++ List.replicate (N - ds.length) none
def outM (o : Out) : M D := match o with
  | .nx _ => pure .non
  | .rt d => pure d
  | _ => stuck
def fnM (N : Nat) (m : Env → M Out) (ds : List D) : M D := m (startE N ds) >>= outM
section
variable {P : Program} {w : World} {K : PySem.W.Frag} {mg : Str → Option Value} {base : Heap}
theorem simV_start {μ : List Addr} {H : Hp} {vs : List V} {ds : List D} (N : List Str) (h : RepL K μ H vs ds) : SimV K μ H (start N vs) (startE N.length ds) := by
  unfold L2.start startE
  have hl := h.length
  refine ⟨by simp only [List.length_append, List.length_map, List.length_replicate, hl], fun i d e => ?_⟩
  by_cases hi : i < ds.length
  · rw [List.getElem?_append_left (by rw [List.length_map]; exact hi), List.getElem?_map] at e
    cases ed : ds[i]? with
    | none => rw [ed] at e; cases e
    | some d' =>
      rw [ed] at e
      cases e
      obtain ⟨v, hv, r⟩ := h.get ed
      exact ⟨v, by rw [List.getElem?_append_left (by rw [List.length_map, hl]; exact hi), List.getElem?_map, hv]; rfl, r⟩
  · rw [List.getElem?_append_right (by rw [List.length_map]; omega)] at e
    have := List.mem_of_getElem? e
    rw [List.mem_replicate] at this
    cases this.2
/-- THE RULE for a def: its body mirrored -/
theorem fn_ok {x qual : Str} {st : Stmt} {f : Addr} {fd : FuncData} {N ps : List Str} {k n : Nat} {m : Env → M Out} (F : Fun K x qual st f fd) (Sc : FnScope N ps (defScope st)) (hn : ps.length = n)
    (hbody : ∀ (cdv : Value) (A : Around) (outer : List PySem.Env) (s : Shared) (H : Hp) (E : XK), Room k (A.deeper (envOfC qual (defScope st) s.heap.objs.size f cdv)) → SSs (cxOf CX0 P w K mg base N qual (defScope st) f cdv A outer s H E).nox E (defBody st) m) :
    FnOk P w K mg base CX0 (k + 1) f fd ps (spM K n (fnM N.length m)) := by
  refine F.ok Sc (fun vs H Q E h => ?_) (fun cdv A outer s H vs Q E hr h => ?_)
  · obtain ⟨μ, s, ds, hs, hl, hlen, p⟩ := h
    rw [hl.length, hlen, hn]
  · obtain ⟨μ, s0, ds, hs, hl, hlen, p⟩ := h
    refine ⟨_, hbody cdv A outer s H E hr, μ, startE N.length ds, s0, simV_start N hl, hs, (Post.bind p).mono fun o s1 μ1 H1 g1 hs1 p1 => ?_⟩
    cases o with
    | nx env => exact fun σ' _ => post_val hs1 p1 .non
    | rt d => exact fun v hr => post_val hs1 p1 hr
    | bk env => exact (show False from p1).elim
    | ct env => exact (show False from p1).elim
/-- a better mirror of the same def -/
theorem fn_imp {k n : Nat} {f : Addr} {fd : FuncData} {ps : List Str} {F G : List D → M D} {CX : CXT} (h : FnOk P w K mg base CX k f fd ps (spM K n F))
    (hg : ∀ (E : XK) (ds : List D) (s : S) (μ : List Addr) (H : Hp) (Q : VK), ds.length = n → SimS K μ H s → Post K E μ H (G ds s) (okD K Q) → Post K E μ H (F ds s) (okD K Q)) : FnOk P w K mg base CX k f fd ps (spM K n G) :=
  h.imp fun vs H Q E ⟨μ, s, ds, hs, hl, hlen, p⟩ => ⟨μ, s, ds, hs, hl, hlen, hg E ds s μ H Q hlen hs p⟩
end
end PL

/-! PL6: what the top leaves, the law's end, what a call may leave behind. -/
namespace PL
open PySem PySem.Spec PyProof.Rows L2

theorem passA {X : Cx} {E : XK} : Passes CX0 X E := fun _ _ _ _ _ _ _ h => h.elim
section
variable {P : Program} {w : World} {K : PySem.W.Frag} {mg : Str → Option Value} {base : Heap}
structure DefOk (K : PySem.W.Frag) (mg : Str → Option Value) (x : Str) (st : Stmt) (ps : List Str) (f : Addr) (fd : FuncData) : Prop where
  fn : Fun K x x st f fd
  b : Binds K fd ps []
  m : mg x = some (.ref f)
inductive DefIn (K : PySem.W.Frag) (x : Str) (st : Stmt) : Prop where
  | mk {f : Addr} {od an : Option Addr} {sl : Array (Option Value)} {oc kV dc pm cd ct : Value} (a : PySem.W.nsIn K mainGlobals x = some (some (.ref f)))
      (l : K.lookup f = some ⟨oc, od, .func (PySem.W.fnOf x x (defArgs st) (defBody st) (defScope st) .none kV dc pm an cd ct), sl⟩) (c : PySem.W.codeIn K cd x = true) (k : PySem.W.keepIn K (.ref f) = true) : DefIn K x st
theorem DefIn.get {x : Str} {st : Stmt} {h : Heap} (d : DefIn K x st) (ps : List Str) (X : K.In h) (G : h.Ns mainGlobals mg)
    (hb : ∀ (kV doc pm : Value) (an : Option Addr) (cdv ct : Value) (us : List Value), us.length = ps.length → bindArgs (PySem.W.fnOf x x (defArgs st) (defBody st) (defScope st) .none kV doc pm an cdv ct) ⟨us, []⟩ = pure (ps.zip us)) :
    ∃ f fd, DefOk K mg x st ps f fd ∧ ∀ (s : Shared) (us : List Value), us.length = ps.length → BindsTo s fd ⟨us, []⟩ (ps.zip us) := by
  obtain ⟨a, l, c, k⟩ := d
  have F := fun_mk (st := st) l c k
  exact ⟨_, _, ⟨F, F.binds hb, PySem.W.mg_of X G a⟩, fun s us hl => .of_eq (hb _ _ _ _ _ _ us hl)⟩
theorem fn_stuck {k n : Nat} {f : Addr} {fd : FuncData} {ps : List Str} {CX : CXT} : FnOk P w K mg base CX k f fd ps (spM K n fun _ => stuck) :=
  ⟨fun vs H Q E ⟨μ, s, ds, hs, hl, hlen, p⟩ => (show False from p).elim, fun A outer s H args us vs Q E hr he hb hv ⟨μ, st, ds, hs, hl, hlen, p⟩ => (show False from p).elim⟩
theorem law_end {H : Hp} {a : Addr} {ns : List Int} {F : List D → M D} (hO : Only H) (hS : SqL K H a (ns.map V.int)) (h : ∃ s', F [.flst (ns.map D.int)] [] = .ok (.bl true) s') :
    spM K 1 F [.ref a] H (fun v _ => v = .bl true) fun _ _ _ => False := by
  obtain ⟨s', e⟩ := h
  have hf : FrzL K H a (ns.map V.int) := by
    rcases hS with (h | ⟨o, h⟩) | h
    · rcases hO a with z | ⟨o, xs, z⟩
      · rw [h] at z; cases z
      · rw [h] at z; cases z
    · exact .inl ⟨o, h⟩
    · exact .inr h
  have hl : ∀ ms : List Int, RepL K [] H (ms.map V.int) (ms.map D.int) := fun ms => by
    induction ms with
    | nil => exact .nil
    | cons m ms ih => exact .cons (.int m) ih
  refine ⟨[], [], [.flst (ns.map D.int)], ⟨rfl, List.nodup_nil, fun n c z => by simp at z⟩, .cons (.flst hf (hl ns)) .nil, rfl, ?_⟩
  rw [e]
  intro μ' H' g hs v hv
  cases hv
  rfl
end

/-! ### what a call leaves behind may be forgotten -/
mutual
inductive Cl (n : Nat) : D → Prop
  | non : Cl n .non
  | bl (b : Bool) : Cl n (.bl b)
  | int (i : Int) : Cl n (.int i)
  | str (x : Str) : Cl n (.str x)
  | tup {ds : List D} : ClL n ds → Cl n (.tup ds)
  | flst {ds : List D} : ClL n ds → Cl n (.flst ds)
  | ptr {k : Nat} : k < n → Cl n (.ptr k)
inductive ClL (n : Nat) : List D → Prop
  | nil : ClL n []
  | cons {d : D} {ds : List D} : Cl n d → ClL n ds → ClL n (d :: ds)
end
mutual
theorem Rep.cl {K : PySem.W.Frag} {μ : List Addr} {H : Hp} : ∀ (d : D) (v : V), Rep K μ H v d → Cl μ.length d
  | .non, _, h => .non
  | .bl b, _, h => .bl b
  | .int i, _, h => .int i
  | .str x, _, h => .str x
  | .tup ds, _, h => by
    cases h with
    | tup hs hl => exact .tup (RepL.cl ds _ hl)
  | .flst ds, _, h => by
    cases h with
    | flst hs hl => exact .flst (RepL.cl ds _ hl)
  | .ptr n, _, h => by
    cases h with
    | ptr e => exact .ptr (List.getElem?_eq_some_iff.mp e).1
theorem RepL.cl {K : PySem.W.Frag} {μ : List Addr} {H : Hp} : ∀ (ds : List D) (vs : List V), RepL K μ H vs ds → ClL μ.length ds
  | [], _, h => .nil
  | d :: ds, _, h => by
    cases h with
    | cons h1 h2 => exact .cons (Rep.cl d _ h1) (RepL.cl ds _ h2)
end
mutual
theorem Cl.rep {K : PySem.W.Frag} {μ t : List Addr} {H : Hp} : ∀ (d : D) (v : V), Cl μ.length d → Rep K (μ ++ t) H v d → Rep K μ H v d
  | .non, _, _, h => by cases h; exact .non
  | .bl b, _, _, h => by cases h; exact .bl b
  | .int i, _, _, h => by cases h; exact .int i
  | .str x, _, _, h => by cases h; exact .str x
  | .tup ds, _, c, h => by
    cases h with
    | tup hs hl =>
      cases c with
      | tup c => exact .tup hs (ClL.rep ds _ c hl)
  | .flst ds, _, c, h => by
    cases h with
    | flst hs hl =>
      cases c with
      | flst c => exact .flst hs (ClL.rep ds _ c hl)
  | .ptr n, _, c, h => by
    cases h with
    | ptr e =>
      cases c with
      | ptr c =>
        rw [List.getElem?_append_left c] at e
        exact .ptr e
theorem ClL.rep {K : PySem.W.Frag} {μ t : List Addr} {H : Hp} : ∀ (ds : List D) (vs : List V), ClL μ.length ds → RepL K (μ ++ t) H vs ds → RepL K μ H vs ds
  | [], _, _, h => by cases h; exact .nil
  | d :: ds, _, c, h => by
    cases h with
    | cons h1 h2 =>
      cases c with
      | cons c1 c2 => exact .cons (Cl.rep d _ c1 h1) (ClL.rep ds _ c2 h2)
end
def CellCl (n : Nat) : Cell → Prop
  | .lst ds => ClL n ds
  | .dK kvs => ClL n (kvs.map (·.2))
  | .dT kvs => ClL n (kvs.map (·.2))
  | .ins _ fs => ClL n (fs.map (·.2))
theorem CellOk.cl {K : PySem.W.Frag} {μ : List Addr} {H : Hp} {a : Addr} {c : Cell} (h : CellOk K μ H a c) : CellCl μ.length c := by
  cases c with
  | lst ds => obtain ⟨xs, _, r⟩ := h; exact RepL.cl _ _ r
  | dK kvs => obtain ⟨xs, _, r⟩ := h; exact RepL.cl _ _ r.2
  | dT kvs => obtain ⟨xs, _, r⟩ := h; exact RepL.cl _ _ r.2
  | ins C fs => obtain ⟨_, dx, xs, _, _, r⟩ := h; exact RepL.cl _ _ r.2
theorem CellCl.ok {K : PySem.W.Frag} {μ t : List Addr} {H : Hp} {a : Addr} {c : Cell} (k : CellCl μ.length c) (h : CellOk K (μ ++ t) H a c) : CellOk K μ H a c := by
  cases c with
  | lst ds => obtain ⟨xs, e, r⟩ := h; exact ⟨xs, e, ClL.rep _ _ k r⟩
  | dK kvs => obtain ⟨xs, e, r⟩ := h; exact ⟨xs, e, r.1, ClL.rep _ _ k r.2⟩
  | dT kvs => obtain ⟨xs, e, r⟩ := h; exact ⟨xs, e, r.1, ClL.rep _ _ k r.2⟩
  | ins C fs => obtain ⟨c, dx, xs, hc, e, r⟩ := h; exact ⟨c, dx, xs, hc, e, r.1, ClL.rep _ _ k r.2⟩
/-- a store whose pointers stay within it -/
def SCl (s : S) : Prop := ∀ c ∈ s, CellCl s.length c
theorem SimS.scl {K : PySem.W.Frag} {μ : List Addr} {H : Hp} {s : S} (h : SimS K μ H s) : SCl s := fun c hc => by
  obtain ⟨n, hn⟩ := List.getElem?_of_mem hc
  obtain ⟨a, _, h2⟩ := h.cell n c hn
  rw [← h.len]
  exact h2.cl
/-- the store behind may be cut back to s1: r and s1 point to s1 alone -/
theorem Post.drop {K : PySem.W.Frag} {E : XK} {μ : List Addr} {H : Hp} {s s1 g : S} {r : D} {Q : VK} (hs : SimS K μ H s) (hl : s1.length = s.length) (hc : SCl s1) (hr : Cl s.length r) (p : Post K E μ H (.ok r s1) (okD K Q)) : Post K E μ H (.ok r (s1 ++ g)) (okD K Q) := by
  intro μ' H' g' hs' v hv
  obtain ⟨t, rfl⟩ := g'.pre
  have e1 : μ.length = s.length := hs.len
  have hm : ∀ n c, s1[n]? = some c → ∃ a, μ[n]? = some a ∧ CellOk K μ H' a c := fun n c hn => by
    have hn1 := (List.getElem?_eq_some_iff.mp hn).1
    obtain ⟨a, ha, ho⟩ := hs'.cell n c (by rw [List.getElem?_append_left hn1]; exact hn)
    rw [List.getElem?_append_left (by omega)] at ha
    refine ⟨a, ha, CellCl.ok ?_ ho⟩
    rw [e1, ← hl]
    exact hc c (List.mem_of_getElem? hn)
  refine p μ H' ⟨⟨[], (List.append_nil μ).symm⟩, g'.tup, g'.frz, fun a o h n => g'.frm a o h fun z => ?_, fun a h => .inl h, g'.trk⟩ ⟨by omega, hs.nd, hm⟩ v (Cl.rep r v (by rw [e1]; exact hr) hv)
  rcases g'.new a z with z | z
  · exact n z
  · rw [h] at z
    cases z
end PL

/-! PL7: mirrors run: equations for simp. -/
namespace PL
open PySem PySem.Spec PyProof.Rows L2

/-- go on behind an answer -/
def R.on {α β : Type} (r : R α) (f : α → S → R β) : R β := match r with
  | .stuck => .stuck | .ok a s => f a s | .exc c s => .exc c s
theorem on_ok {α β : Type} (a : α) (s : S) (f : α → S → R β) : (R.ok a s).on f = f a s := rfl
theorem on_exc {α β : Type} (c : Str) (s : S) (f : α → S → R β) : (R.exc c s : R α).on f = .exc c s := rfl
theorem on_stuck {α β : Type} (f : α → S → R β) : (R.stuck : R α).on f = .stuck := rfl
theorem bind_on {α β : Type} (m : M α) (f : α → M β) (s : S) : (m >>= f) s = (m s).on fun a s' => f a s' := by
  rw [bind_run]
  cases m s <;> rfl
section
variable {f g : D → D → M D} {h : D → M D} {fl : List D → M D} {ma mb mc : Env → M D} {ta tb : Env → M Bool} {mr : Env → M (List D)} {env : Env} {s : S} {m n : Env → M Out} {i j : Nat}
theorem binM_run : binM f ma mb env s = (ma env s).on fun x s1 => (mb env s1).on fun y s2 => f x y s2 := by
  show (ma env >>= _) s = _
  rw [bind_on]
  congr 1
theorem unM_run : unM h ma env s = (ma env s).on fun x s1 => h x s1 := bind_on _ _ _
def bB (d : D) (s : S) : R Bool := match d with
  | .bl b => .ok b s
  | _ => .stuck
theorem bB_bl (b : Bool) : bB (.bl b) s = .ok b s := rfl
theorem tB_run : tB ma env s = (ma env s).on bB := by
  show (ma env >>= _) s = _
  rw [bind_on]
  congr 1
  funext d s1
  cases d <;> rfl
def chK (g : D → D → M D) (mc : Env → M D) (env : Env) (y : D) (r : D) (s : S) : R D := match r with
  | .bl true => (mc env s).on fun z s4 => g y z s4
  | .bl false => .ok (.bl false) s
  | _ => .stuck
theorem chK_t (y : D) : chK g mc env y (.bl true) s = (mc env s).on fun z s4 => g y z s4 := rfl
theorem chK_f (y : D) : chK g mc env y (.bl false) s = .ok (.bl false) s := rfl
theorem chainM_run : chainM f g ma mb mc env s = (ma env s).on fun x s1 => (mb env s1).on fun y s2 => (f x y s2).on fun r s3 => chK g mc env y r s3 := by
  show (ma env >>= _) s = _
  rw [bind_on]
  congr 1
  funext x s1
  rw [bind_on]
  congr 1
  funext y s2
  rw [bind_on]
  congr 1
  funext r s3
  cases r with
  | bl b =>
    cases b with
    | true => exact bind_on _ _ _
    | false => rfl
  | _ => rfl
theorem truM_run : truM ma env s = (ma env s).on fun d s1 => truD d s1 := bind_on _ _ _
theorem andM_run : andM ma mb env s = (ma env s).on fun x s1 => (truD x s1).on fun k s2 => if k = true then mb env s2 else .ok x s2 := by
  show (ma env >>= _) s = _
  rw [bind_on]
  congr 1
  funext x s1
  rw [bind_on]
  congr 1
  funext k s2
  cases k <;> rfl
theorem orM_run : orM ma mb env s = (ma env s).on fun x s1 => (truD x s1).on fun k s2 => if k = true then .ok x s2 else mb env s2 := by
  show (ma env >>= _) s = _
  rw [bind_on]
  congr 1
  funext x s1
  rw [bind_on]
  congr 1
  funext k s2
  cases k <;> rfl
theorem notM_run : notM ma env s = (ma env s).on fun x s1 => (truD x s1).on fun k s2 => .ok (.bl (!k)) s2 := by
  show (ma env >>= _) s = _
  rw [bind_on]
  congr 1
theorem andT_run : andT ta tb env s = (ta env s).on fun k s2 => if k = true then tb env s2 else .ok false s2 := by
  show (ta env >>= _) s = _
  rw [bind_on]
  congr 1
  funext k s2
  cases k <;> rfl
theorem orT_run : orT ta tb env s = (ta env s).on fun k s2 => if k = true then .ok true s2 else tb env s2 := by
  show (ta env >>= _) s = _
  rw [bind_on]
  congr 1
  funext k s2
  cases k <;> rfl
theorem notT_run : notT ta env s = (ta env s).on fun k s2 => .ok (!k) s2 := bind_on _ _ _
theorem ifM_run : ifM ta ma mb env s = (ta env s).on fun k s2 => if k = true then ma env s2 else mb env s2 := by
  show (ta env >>= _) s = _
  rw [bind_on]
  congr 1
  funext k s2
  cases k <;> rfl
theorem nilA_run : nilA env s = .ok [] s := rfl
theorem consA_run : consA ma mr env s = (ma env s).on fun d s1 => (mr env s1).on fun ds s2 => .ok (d :: ds) s2 := by
  show (ma env >>= _) s = _
  rw [bind_on]
  congr 1
def tupK (ds : List D) (s : S) : R D := if ds.length ≤ 100000 then .ok (.tup ds) s else .stuck
def lstK (ds : List D) (s : S) : R D := if ds.length ≤ 100000 then .ok (.ptr s.length) (s ++ [.lst ds]) else .stuck
theorem tupM_run : tupM mr env s = (mr env s).on tupK := by
  show (mr env >>= _) s = _
  rw [bind_on]
  congr 1
  funext ds s1
  unfold tupK
  by_cases h : ds.length ≤ 100000
  · rw [if_pos h, if_pos h]
    rfl
  · rw [if_neg h, if_neg h]
    rfl
theorem lstM_run : lstM mr env s = (mr env s).on lstK := by
  show (mr env >>= _) s = _
  rw [bind_on]
  congr 1
  funext ds s1
  unfold lstK
  by_cases h : ds.length ≤ 100000
  · rw [if_pos h, if_pos h]
    rfl
  · rw [if_neg h, if_neg h]
    rfl
theorem tupK_1 (a : D) : tupK [a] s = .ok (.tup [a]) s := rfl
theorem tupK_2 (a b : D) : tupK [a, b] s = .ok (.tup [a, b]) s := rfl
theorem tupK_3 (a b c : D) : tupK [a, b, c] s = .ok (.tup [a, b, c]) s := rfl
theorem tupK_4 (a b c d : D) : tupK [a, b, c, d] s = .ok (.tup [a, b, c, d]) s := rfl
theorem tupK_le {ds : List D} (h : ds.length ≤ 100000) : tupK ds s = .ok (.tup ds) s := if_pos h
theorem lstK_le {ds : List D} (h : ds.length ≤ 100000) : lstK ds s = .ok (.ptr s.length) (s ++ [.lst ds]) := if_pos h
theorem callM_run : callM fl mr env s = (mr env s).on fun ds s1 => fl ds s1 := bind_on _ _ _
theorem cM_run (d : D) : cM d env s = .ok d s := rfl
def varK (o : Option (Option D)) (s : S) : R D := match o with
  | some (some d) => .ok d s
  | _ => .stuck
theorem varK_ok (d : D) : varK (some (some d)) s = .ok d s := rfl
theorem varM_run : varM i env s = varK env[i]? s := by
  unfold varM
  cases e : env[i]? with
  | none => rfl
  | some o =>
    cases o with
    | none => rfl
    | some d => rfl
theorem yesT_run : yesT env s = .ok true s := rfl

/-! ### operators -/
theorem addD_int (a b : Int) : addD (.int a) (.int b) s = .ok (.int (a + b)) s := rfl
theorem subD_int (a b : Int) : subD (.int a) (.int b) s = .ok (.int (a - b)) s := rfl
theorem mulD_int {a b : Int} (h : MulOk a b) : mulD (.int a) (.int b) s = .ok (.int (a * b)) s := by
  show (if MulOk a b then (Pure.pure (D.int (a * b)) : M D) else stuck) s = _
  rw [if_pos h]
  rfl
theorem modD_pos {a b : Int} (h : 0 < b) : modD (.int a) (.int b) s = .ok (.int (a % b)) s := by
  show (if b = 0 then (stuck : M D) else Pure.pure (.int (if 0 < b then a % b else a.fmod b))) s = _
  rw [if_neg (by omega), if_pos h]
  rfl
theorem fdivD_pos {a b : Int} (h : 0 < b) (k : Bt 9000 b) : fdivD (.int a) (.int b) s = .ok (.int (a / b)) s := by
  show (if DivOk b then (if b = 0 then (stuck : M D) else Pure.pure (.int (if 0 < b then a / b else a.fdiv b))) else stuck) s = _
  rw [if_pos ⟨k⟩, if_neg (by omega), if_pos h]
  rfl
theorem fdivD_dvd {a b : Int} (h : b ≠ 0) (k : Bt 9000 b) (d : b ∣ a) : fdivD (.int a) (.int b) s = .ok (.int (a / b)) s := by
  show (if DivOk b then (if b = 0 then (stuck : M D) else Pure.pure (.int (if 0 < b then a / b else a.fdiv b))) else stuck) s = _
  rw [if_pos ⟨k⟩, if_neg h, Int.fdiv_eq_ediv_of_dvd d]
  split <;> rfl
theorem powD_ok {a b : Int} (h : (0 ≤ b ∧ b ≤ 1000) ∧ (-18446744073709551616 < a ∧ a < 18446744073709551616)) : powD (.int a) (.int b) s = .ok (.int (a ^ b.toNat)) s := by
  show (if PowOk a b then (Pure.pure (D.int (a ^ b.toNat)) : M D) else stuck) s = _
  rw [if_pos ⟨h⟩]
  rfl
theorem negD_int (a : Int) : negD (.int a) s = .ok (.int (-a)) s := rfl
theorem ltD_int (a b : Int) : ltD (.int a) (.int b) s = .ok (.bl (decide (a < b))) s := rfl
theorem leD_int (a b : Int) : leD (.int a) (.int b) s = .ok (.bl (decide (a ≤ b))) s := rfl
theorem gtD_int (a b : Int) : gtD (.int a) (.int b) s = .ok (.bl (decide (b < a))) s := rfl
theorem geD_int (a b : Int) : geD (.int a) (.int b) s = .ok (.bl (decide (b ≤ a))) s := rfl
theorem eqD_int (a b : Int) : eqD (.int a) (.int b) s = .ok (.bl (decide (a = b))) s := rfl
theorem eqD_bl (a b : Bool) : eqD (.bl a) (.bl b) s = .ok (.bl (decide (a = b))) s := rfl
theorem eqD_str (a b : Str) : eqD (.str a) (.str b) s = .ok (.bl (decide (a = b))) s := rfl
theorem neD_run (x y : D) : neD x y s = (eqD x y s).on fun d s1 => match d with
  | .bl b => .ok (.bl (!b)) s1
  | _ => .stuck := by
  show (eqD x y >>= _) s = _
  rw [bind_on]
  congr 1
  funext d s1
  cases d <;> rfl
theorem neD_int (a b : Int) : neD (.int a) (.int b) s = .ok (.bl (!decide (a = b))) s := rfl
theorem neD_bl (a b : Bool) : neD (.bl a) (.bl b) s = .ok (.bl (!decide (a = b))) s := rfl
theorem isnD_non : isnD .non s = .ok (.bl true) s := rfl
theorem isnD_int (a : Int) : isnD (.int a) s = .ok (.bl false) s := rfl
theorem isnD_bl (a : Bool) : isnD (.bl a) s = .ok (.bl false) s := rfl
theorem isnD_str (a : Str) : isnD (.str a) s = .ok (.bl false) s := rfl
theorem isnD_tup (a : List D) : isnD (.tup a) s = .ok (.bl false) s := rfl
theorem isnD_ptr (a : Nat) : isnD (.ptr a) s = .ok (.bl false) s := rfl
theorem isbD_bl (a b : Bool) : isbD (.bl a) (.bl b) s = .ok (.bl (decide (a = b))) s := rfl
theorem notbD_bl (a b : Bool) : notbD (.bl a) (.bl b) s = .ok (.bl (!decide (a = b))) s := rfl
theorem truD_bl (b : Bool) : truD (.bl b) s = .ok b s := rfl
theorem truD_int (b : Int) : truD (.int b) s = .ok (b != 0) s := rfl
theorem and_bl (k c : Bool) : (if k = true then (R.ok (D.bl c) s : R D) else R.ok (D.bl k) s) = R.ok (D.bl (k && c)) s := by cases k <;> rfl
theorem or_bl (k c : Bool) : (if k = true then (R.ok (D.bl k) s : R D) else R.ok (D.bl c) s) = R.ok (D.bl (k || c)) s := by cases k <;> rfl
theorem and_tt (k c : Bool) : (if k = true then (R.ok c s : R Bool) else R.ok false s) = R.ok (k && c) s := by cases k <;> rfl
theorem or_tt (k c : Bool) : (if k = true then (R.ok true s : R Bool) else R.ok c s) = R.ok (k || c) s := by cases k <;> rfl
theorem fun1_run (d : D) : fun1 h [d] s = h d s := rfl
theorem fun2_run (d e : D) : fun2 f [d, e] s = f d e s := rfl
theorem intD_int (a : Int) : intD (.int a) s = .ok (.int a) s := rfl
theorem intD_bl (a : Bool) : intD (.bl a) s = .ok (.int (if a then 1 else 0)) s := rfl
theorem absD_int (a : Int) : absD (.int a) s = .ok (.int (if a < 0 then -a else a)) s := rfl
theorem gcdD_int (a b : Int) : gcdD (.int a) (.int b) s = .ok (.int ((Nat.gcd a.natAbs b.natAbs : Nat) : Int)) s := rfl
theorem lenD_tup (ds : List D) : lenD (.tup ds) s = .ok (.int (ds.length : Int)) s := rfl
def atK (o : Option D) (s : S) : R D := match o with
  | some d => .ok d s
  | none => .stuck
theorem atK_some (d : D) : atK (some d) s = .ok d s := rfl
theorem ixS_int (ds : List D) (a : Int) : ixS ds (.int a) s = atK (atI ds a) s := by
  show (match atI ds a with
    | some d => (Pure.pure d : M D)
    | none => stuck) s = _
  cases atI ds a <;> rfl
theorem ixD_tup (ds : List D) (y : D) : ixD (.tup ds) y s = ixS ds y s := rfl
theorem ixD_flst (ds : List D) (y : D) : ixD (.flst ds) y s = ixS ds y s := rfl
theorem ixD_lst {k : Nat} {ds : List D} (e : s[k]? = some (.lst ds)) (y : D) : ixD (.ptr k) y s = ixS ds y s := by
  show (match s[k]? with
    | some (.lst ds) => ixS ds y s
    | some (.dK kvs) => ixK kvs y s
    | _ => .stuck) = _
  rw [e]
theorem atI_nat {ds : List D} {k : Nat} {d : D} (e : ds[k]? = some d) : atI ds (k : Int) = some d := L2.atI_nat e
theorem at0 (a : D) (ds : List D) : atI (a :: ds) 0 = some a := L2.atI_nat (j := 0) rfl
theorem at1 (a b : D) (ds : List D) : atI (a :: b :: ds) 1 = some b := L2.atI_nat (j := 1) rfl
theorem at2 (a b c : D) (ds : List D) : atI (a :: b :: c :: ds) 2 = some c := L2.atI_nat (j := 2) rfl
theorem at3 (a b c d : D) (ds : List D) : atI (a :: b :: c :: d :: ds) 3 = some d := L2.atI_nat (j := 3) rfl
theorem lenD_lst {k : Nat} {ds : List D} (e : s[k]? = some (.lst ds)) : lenD (.ptr k) s = .ok (.int (ds.length : Int)) s := by
  show (match s[k]? with
    | some (.lst ds) => R.ok (D.int ds.length) s
    | some (.dK kvs) => .ok (.int kvs.length) s
    | _ => .stuck) = _
  rw [e]

/-! ### statements -/
theorem fnM_run (N : Nat) (ds : List D) : fnM N m ds s = (m (startE N ds) s).on fun o s1 => outM o s1 := bind_on _ _ _
theorem outM_rt (d : D) : outM (.rt d) s = .ok d s := rfl
theorem outM_nx (e : Env) : outM (.nx e) s = .ok .non s := rfl
theorem lenM_run {k : Nat} {ds : List D} (e : ds.length = k) : lenM k fl ds s = fl ds s := by
  show (if ds.length = k then fl ds else stuck) s = _
  rw [if_pos e]
theorem lenM0 : lenM 0 fl [] s = fl [] s := rfl
theorem lenM1 (a : D) : lenM 1 fl [a] s = fl [a] s := rfl
theorem lenM2 (a b : D) : lenM 2 fl [a, b] s = fl [a, b] s := rfl
theorem lenM3 (a b c : D) : lenM 3 fl [a, b, c] s = fl [a, b, c] s := rfl
theorem lenM4 (a b c d : D) : lenM 4 fl [a, b, c, d] s = fl [a, b, c, d] s := rfl
theorem lenM5 (a b c d e : D) : lenM 5 fl [a, b, c, d, e] s = fl [a, b, c, d, e] s := rfl
def seqK (n : Env → M Out) (o : Out) (s : S) : R Out := match o with
  | .nx env' => n env' s
  | .rt d => .ok (.rt d) s
  | .bk e => .ok (.bk e) s
  | .ct e => .ok (.ct e) s
theorem seqK_nx (e : Env) : seqK n (.nx e) s = n e s := rfl
theorem seqK_rt (d : D) : seqK n (.rt d) s = .ok (.rt d) s := rfl
theorem seqK_bk (e : Env) : seqK n (.bk e) s = .ok (.bk e) s := rfl
theorem seqK_ct (e : Env) : seqK n (.ct e) s = .ok (.ct e) s := rfl
theorem seqS_run : seqS m n env s = (m env s).on (seqK n) := by
  show (m env >>= _) s = _
  rw [bind_on]
  congr 1
  funext o s1
  cases o <;> rfl
theorem setS_run : setS i ma env s = (ma env s).on fun d s1 => .ok (.nx (env.set i (some d))) s1 := bind_on _ _ _
theorem dropS_run : dropS ma env s = (ma env s).on fun _ s1 => .ok (.nx env) s1 := bind_on _ _ _
theorem retS_run : retS ma env s = (ma env s).on fun d s1 => .ok (.rt d) s1 := bind_on _ _ _
theorem nxS_run : nxS env s = .ok (.nx env) s := rfl
theorem ifS_run : ifS ta m n env s = (ta env s).on fun k s1 => if k = true then m env s1 else n env s1 := by
  show (ta env >>= _) s = _
  rw [bind_on]
  congr 1
  funext k s1
  cases k <;> rfl
theorem asgS_run (gg : D → Env → M Env) : asgS ma gg env s = (ma env s).on fun d s1 => (gg d env s1).on fun e s2 => .ok (.nx e) s2 := by
  show (ma env >>= _) s = _
  rw [bind_on]
  congr 1
theorem gNm_run (d : D) : gNm i d env s = .ok (env.set i (some d)) s := rfl
theorem gNilM_run : gNilM [] env s = .ok env s := rfl
theorem gConsM_run (g1 : D → Env → M Env) (gs : List D → Env → M Env) (d : D) (r : List D) : gConsM g1 gs (d :: r) env s = (g1 d env s).on fun e s1 => gs r e s1 := bind_on _ _ _
theorem gTupM_run {k : Nat} (gs : List D → Env → M Env) {ds : List D} (e : ds.length = k) : gTupM k gs (.tup ds) env s = gs ds env s := by
  show (if ds.length = k then gs ds env else stuck) s = _
  rw [if_pos e]
theorem gTup2 (gs : List D → Env → M Env) (a b : D) : gTupM 2 gs (.tup [a, b]) env s = gs [a, b] env s := rfl
theorem gTup3 (gs : List D → Env → M Env) (a b c : D) : gTupM 3 gs (.tup [a, b, c]) env s = gs [a, b, c] env s := rfl
theorem gSubM_run (mo mi : Env → M D) (ff : D → D → D → M Unit) (v : D) : gSubM mo mi ff v env s = (mo env s).on fun o s1 => (mi env s1).on fun x s2 => (ff o x v s2).on fun _ s3 => .ok env s3 := by
  show (mo env >>= _) s = _
  rw [bind_on]
  congr 1
theorem setLD_nat {k j : Nat} {ds : List D} (e : s[k]? = some (.lst ds)) (h : j < ds.length) (v : D) : setLD (.ptr k) (.int (j : Int)) v s = .ok () (s.set k (.lst (ds.set j v))) := by
  show (match s[k]? with
    | some (.lst ds) => putL ds (.int (j : Int)) v k s
    | _ => .stuck) = _
  rw [e]
  show (match ixN ds.length (j : Int) with
    | some j => (fun (s : S) => R.ok () (s.set k (.lst (ds.set j v))))
    | none => (stuck : M Unit)) s = _
  have e1 : ixN ds.length (j : Int) = some j := by
    unfold ixN
    rw [if_pos (by omega), if_pos (by omega)]
    simp
  rw [e1]
theorem parS_run : parS i j ma mb env s = (ma env s).on fun a s1 => (mb env s1).on fun b s2 => .ok (.nx ((env.set i (some a)).set j (some b))) s2 := by
  show (ma env >>= _) s = _
  rw [bind_on]
  congr 1
theorem forS_run (mi : Env → M Src) (gg : D → Env → M Env) : forS mi gg m env s = (mi env s).on fun r s1 => loopM r gg m r.items env s1 := bind_on _ _ _
theorem srcM_run : srcM ma env s = (ma env s).on fun d s1 => srcD d s1 := bind_on _ _ _
theorem srcA_run (fs : List D → M Src) : srcA fs mr env s = (mr env s).on fun d s1 => fs d s1 := bind_on _ _ _
theorem srcD_str (x : Str) : srcD (.str x) s = .ok ⟨signsOf x, none⟩ s := rfl
theorem srcD_tup (ds : List D) : srcD (.tup ds) s = .ok ⟨ds, none⟩ s := rfl
theorem srcD_flst (ds : List D) : srcD (.flst ds) s = .ok ⟨ds, none⟩ s := rfl
theorem srcD_lst {k : Nat} {ds : List D} (e : s[k]? = some (.lst ds)) : srcD (.ptr k) s = .ok ⟨ds, some (k, ds)⟩ s := by
  show (match s[k]? with
    | some (.lst ds) => R.ok (⟨ds, some (k, ds)⟩ : Src) s
    | _ => .stuck) = _
  rw [e]
theorem rng1_run {a : Int} (h : -4000000000 ≤ a ∧ a ≤ 4000000000) : rng1D [.int a] s = .ok ⟨rngItems 0 a.toNat, none⟩ s := by
  show (if -4000000000 ≤ a ∧ a ≤ 4000000000 then (Pure.pure (⟨rngItems 0 a.toNat, none⟩ : Src) : M Src) else stuck) s = _
  rw [if_pos h]
  rfl
theorem guard_none (ds : List D) : guardM ⟨ds, none⟩ s = .ok () s := if_pos (show True from trivial)
theorem guard_pos {r : Src} {s : S} (h : r.Ok s) : guardM r s = .ok () s := if_pos h
noncomputable def lpK (r : Src) (gg : D → Env → M Env) (b : Env → M Out) (ds : List D) (o : Out) (s : S) : R Out := match o with
  | .nx e => loopM r gg b ds e s
  | .ct e => loopM r gg b ds e s
  | .bk e => .ok (.nx e) s
  | .rt d => .ok (.rt d) s
theorem loop_nil (r : Src) (gg : D → Env → M Env) : loopM r gg m [] env s = (guardM r s).on fun _ s1 => .ok (.nx env) s1 := bind_on _ _ _
theorem loop_cons (r : Src) (gg : D → Env → M Env) (d : D) (ds : List D) : loopM r gg m (d :: ds) env s = (guardM r s).on fun _ s1 => (gg d env s1).on fun e s2 => (m e s2).on (lpK r gg m ds) := by
  show (guardM r >>= _) s = _
  rw [bind_on]
  congr 1
  funext u s1
  rw [bind_on]
  congr 1
  funext e s2
  rw [bind_on]
  congr 1
  funext o s3
  cases o <;> rfl
/-- a loop by a word that every turn keeps -/
theorem loop_all {r : Src} {gg : D → Env → M Env} {b : Env → M Out} (I : Nat → Env → S → Prop) (ok : ∀ i env s, I i env s → r.Ok s)
    (turn : ∀ i d env s, r.items[i]? = some d → I i env s → ∃ env' s', ((gg d env s).on fun e s2 => b e s2) = .ok (.nx env') s' ∧ I (i + 1) env' s') :
    ∀ (ds : List D) (i : Nat) (env : Env) (s : S), r.items.drop i = ds → i ≤ r.items.length → I i env s → ∃ env' s', loopM r gg b ds env s = .ok (.nx env') s' ∧ I r.items.length env' s'
  | [], i, env, s, hd, hi, h => by
    have e : r.items.length ≤ i := List.drop_eq_nil_iff.mp hd
    have e2 : i = r.items.length := by omega
    subst e2
    exact ⟨env, s, by rw [loop_nil, guard_pos (ok _ _ _ h)]; rfl, h⟩
  | d :: ds, i, env, s, hd, hi, h => by
    have hl : i < r.items.length := by
      have := congrArg List.length hd
      rw [List.length_drop, List.length_cons] at this
      omega
    have h1 : r.items[i]? = some d := by
      have := congrArg (fun l => l[0]?) hd
      simpa [List.getElem?_drop] using this
    have h2 : r.items.drop (i + 1) = ds := by
      have := congrArg List.tail hd
      rw [List.tail_drop] at this
      exact this
    obtain ⟨env', s', e1, h'⟩ := turn i d env s h1 h
    obtain ⟨env2, s2, e2, h3⟩ := loop_all I ok turn ds (i + 1) env' s' h2 hl h'
    refine ⟨env2, s2, ?_, h3⟩
    rw [loop_cons, guard_pos (ok _ _ _ h), on_ok]
    cases eg : gg d env s with
    | stuck => rw [eg] at e1; cases e1
    | exc c s1 => rw [eg] at e1; cases e1
    | ok e s1 =>
      rw [eg, on_ok] at e1
      rw [on_ok, e1, on_ok]
      exact e2
end
theorem rng_at {lo : Int} {n i : Nat} {d : D} (h : (rngItems lo n)[i]? = some d) : i < n ∧ d = .int (lo + (i : Int)) := by
  unfold rngItems at h
  rw [List.getElem?_map] at h
  by_cases hi : i < n
  · rw [List.getElem?_range hi] at h
    cases h
    exact ⟨hi, rfl⟩
  · rw [List.getElem?_eq_none (by rw [List.length_range]; omega)] at h
    cases h
theorem rng_len (lo : Int) (n : Nat) : (rngItems lo n).length = n := by
  unfold rngItems
  rw [List.length_map, List.length_range]
end PL

/-! PL8: sorted(dict(xs)) of a list of pairs (pair of integers, thing). -/
namespace PL
open PySem PySem.Spec PyProof.Rows L2

section
variable {prog : Program} {w : World} {A : Around} {E : Value → Shared → Prop}
abbrev KH := List L2.Key × Addr × Value
def mergedH (acc : List KH) : List KH → List KH
  | [] => acc
  | q :: r => mergedH (storedH acc q.1 q.2.1 q.2.2) r
theorem storedH_le (acc : List KH) (k : List L2.Key) (a : Addr) (v : Value) : (storedH acc k a v).length ≤ acc.length + 1 := by
  unfold storedH
  split
  · rw [List.length_map]
    exact Nat.le_succ _
  · rw [List.length_append]
    exact Nat.le_refl _
theorem mergedH_le : ∀ (r acc : List KH), (mergedH acc r).length ≤ acc.length + r.length
  | [], acc => Nat.le_refl _
  | q :: r, acc => by
    have h := mergedH_le r (storedH acc q.1 q.2.1 q.2.2)
    have h2 := storedH_le acc q.1 q.2.1 q.2.2
    show (mergedH (storedH acc q.1 q.2.1 q.2.2) r).length ≤ acc.length + (r.length + 1)
    omega
theorem dh_move {h h' : Heap} {d : Addr} {xs : List KH} (hm : h.DictOfH (tupleKind (mixKind prog w)) d xs) (k : ∀ b o, h.get? b = some o → (b = d ∨ o.cls = .type "tuple") → h'.get? b = some o) : h'.DictOfH (tupleKind (mixKind prog w)) d xs := by
  obtain ⟨o, es, ep, ho, hx, hd, he, hk, hn⟩ := hm
  refine ⟨o, es, ep, k d o ho (.inl rfl), hx, hd, he, fun x hx => ?_, hn⟩
  obtain ⟨o2, items, n, h1, h2, h3, h4⟩ := hk x hx
  exact ⟨o2, items, n, k _ _ h1 (.inr h2), h2, h3, h4⟩
theorem ne_iter {h : Heap} {I l : Addr} {i : Nat} (hit : h.IsListIter I l i) {b : Addr} {o : Obj} (hb : h.get? b = some o) (hc : o.cls = .type "tuple") : b ≠ I := fun e => by
  subst e
  obtain ⟨o', h1, h2, _⟩ := hit
  rw [hb] at h1
  cases h1
  rw [hc] at h2
  exact absurd (Value.type.inj h2) (by decide)
/-- the walk over the pairs, keys being tuples -/
theorem updH_loop {R : Result → Shared → Prop} {S I l : Addr} {items : Array Value} {res : Value} (hu : A.units + 2 < cLine) (hh : A.handled = none) (hlI : l ≠ I) (hSI : S ≠ I) (hSl : S ≠ l) :
    ∀ (rest : List KH) (i : Nat) (acc : List KH) (ix : Int) (t : Tok) (s : Shared), items.size = i + rest.length → acc.length + rest.length ≤ sizeLine →
      (∀ (j : Nat) (q : KH), rest[j]? = some q → ∃ (b : Addr), items[i + j]? = some (.ref b) ∧ b ≠ S ∧ IsTup s.heap b #[.ref q.2.1, q.2.2] ∧ IsTupleKey (mixKind prog w) s.heap q.1 q.2.1 ∧ q.2.1 ≠ S) →
      s.heap.IsListIter I l i → s.heap.IsList l items → s.heap.DictOfH (tupleKind (mixKind prog w)) S acc →
      (∀ h' tk, h'.DictOfH (tupleKind (mixKind prog w)) S (mergedH acc rest) → (∀ b o, b ≠ S → b ≠ I → s.heap.get? b = some o → h'.get? b = some o) → R (.ok (.ret res)) { s with heap := h', toks := tk }) →
      codeAny (model prog w) A (.builtin "dict.update.loop" ⟨[.ref S, .ref I, .int ix t, res], []⟩) R s
  | [], i, acc, ix, t, s, hsz, hln, ht, hit, hl, hm, hR => by
    refine codeAny_builtin ud_entry ?_
    rw [Around.under_plainId ud_plain _]
    show wpAny _ A.in1 (pyNext (.ref I) >>= _) _ _ s
    refine wpAny_bind (wpAny_pyNext_list_end (A := A.in1) hh hit hl (by first | exact Array.getElem?_eq_none (Nat.le_of_eq hsz) | (simp at hsz; simp; omega)) fun h' he => ?_)
    show wpAny _ A.in1 (Builtin.Dict.addKeywords S [] >>= _) _ _ _
    refine wpAny_bind (wpAny_pure (wpAny_pure ?_))
    refine hR h' s.toks (dh_move hm fun b o e c => he b o ?_ e) fun b o _ hb e => he b o hb e
    rcases c with c | c
    · rw [c]
      exact hSI
    · exact ne_iter hit e c
  | q :: rest, i, acc, ix, t, s, hsz, hln, ht, hit, hl, hm, hR => by
    obtain ⟨b, hb, hbS, htup, hk, hkS⟩ := ht 0 q rfl
    rw [List.length_cons] at hsz hln
    refine codeAny_builtin ud_entry ?_
    rw [Around.under_plainId ud_plain _]
    show wpAny _ A.in1 (pyNext (.ref I) >>= _) _ _ s
    refine wpAny_bind (wpAny_pyNext_list_item (x := .ref b) hit hl (by simpa using hb) fun h1 hit1 hs1 => ?_)
    have up1 : ∀ b o, s.heap.get? b = some o → o.cls = .type "tuple" → h1.get? b = some o := fun b o e c => hs1.extBut b o (ne_iter hit e c) e
    have ht1 : IsTup h1 b #[.ref q.2.1, q.2.2] := by
      obtain ⟨o, ho, hc, r⟩ := htup
      exact ⟨o, up1 b o ho hc, hc, r⟩
    have hk1 : IsTupleKey (mixKind prog w) h1 q.1 q.2.1 := by
      obtain ⟨o, its, n, ho, hc, r⟩ := hk
      exact ⟨o, its, n, up1 _ o ho hc, hc, r⟩
    have hl1 : h1.IsList l items := hl.extBut hs1.extBut hlI
    have hm1 : h1.DictOfH (tupleKind (mixKind prog w)) S acc := dh_move hm fun b o e c => by
      rcases c with c | c
      · exact hs1.extBut b o (by rw [c]; exact hSI) e
      · exact up1 b o e c
    obtain ⟨o, ho, hc, n, hd⟩ := id ht1
    show wpAny _ A.in1 (holding [Value.ref b] _ >>= _) _ _ _
    refine wpAny_bind (wpAny_holding ?_)
    refine wpAny_bind (wpAny_tryCatch ?_)
    unfold Builtin.Dict.pairItems
    refine wpAny_bind (wpAny_typeOf (T := "tuple") ⟨o, ho, hc⟩ ?_)
    rw [if_pos (by first | decide | rfl | simp)]
    refine wpAny_bind (wpAny_seqItems ho hd (wpAny_pure ?_))
    show wpAny _ A.in1 (holding [.ref q.2.1, q.2.2] (dictSet S (.ref q.2.1) q.2.2)) _ _ _
    refine wpAny_holding (wpAny_dictSet_heap (knd := tupleKind (mixKind prog w)) (k := q.1) (hsz := by omega) (show (tupleKind (mixKind prog w)).room A.in1 from tupleKind_room_in1 (by omega)) hk1 hm1 fun h2 hm2 hs2 => ?_)
    refine wpAny_pure ⟨plainId_quiet ud_plain _, updH_loop (items := items) hu hh hlI hSI hSl rest (i + 1) (storedH acc q.1 q.2.1 q.2.2) (ix + 1) 0 _ (show items.size = i + 1 + rest.length by omega) ?_ (fun j q' e => ?_) ?_ ?_ hm2 fun h' tk hd' k => ?_⟩
    · have z := storedH_le acc q.1 q.2.1 q.2.2
      omega
    · obtain ⟨b', hb', hbS', htup', hk', hkS'⟩ := ht (j + 1) q' (by simpa using e)
      refine ⟨b', ?_, hbS', ?_, ?_, hkS'⟩
      · rw [show i + 1 + j = i + (j + 1) by omega]
        exact hb'
      · obtain ⟨o, ho, hc, r⟩ := htup'
        exact ⟨o, hs2.extBut _ _ hbS' (up1 _ _ ho hc), hc, r⟩
      · obtain ⟨o, its, n, ho, hc, r⟩ := hk'
        exact ⟨o, its, n, hs2.extBut _ _ hkS' (up1 _ _ ho hc), hc, r⟩
    · exact hit1.at fun o' e => hs2.extBut I o' (Ne.symm hSI) e
    · exact hl1.extBut hs2.extBut (Ne.symm hSl)
    · exact hR h' tk hd' fun c oc h3 h4 e => k c oc h3 h4 (hs2.extBut c oc h3 (hs1.extBut c oc h4 e))
/-- dict(l) of a list of pairs, the keys being tuples -/
theorem call_dict_tups {s : Shared} {l : Addr} {ol : Obj} {items : Array Value} {n : Nat} {prs : List KH} {Q : Value → Shared → Prop} (hu : A.units + 8 < cLine) (hh : A.handled = none) (hl : s.heap.get? l = some ol) (hc : ol.cls = .type "list") (hd : ol.dict = none)
    (hdat : ol.data = .seq items n) (hsz : items.size = prs.length) (hln : prs.length ≤ sizeLine)
    (ht : ∀ (j : Nat) (q : KH), prs[j]? = some q → ∃ (b : Addr), items[j]? = some (.ref b) ∧ IsTup s.heap b #[.ref q.2.1, q.2.2] ∧ IsTupleKey (mixKind prog w) s.heap q.1 q.2.1)
    (h : ∀ h' tk, h'.DictOfH (tupleKind (mixKind prog w)) s.heap.objs.size (mergedH [] prs) → (∀ b o, s.heap.get? b = some o → h'.get? b = some o) → Q (.ref s.heap.objs.size) { s with heap := h', toks := tk }) :
    wpAny (model prog w) A (call (.type "dict") [.ref l]) Q E s := by
  refine callType_codes (Q₁ := fun obj s₁ => obj = .ref s.heap.objs.size ∧ s₁ = { s with heap := s.heap.push { cls := .type "dict", data := .dict #[] } }) PySem.F.kt_called_dict (PySem.F.kt_typeCall_dict_1 _) PySem.F.entry_dict_init (kt_code_dict_new _ ⟨rfl, rfl⟩) ?_
  rintro obj s₁ ⟨rfl, rfl⟩
  have hnew : (s.heap.push { cls := .type "dict", data := .dict #[] }).DictOfH (tupleKind (mixKind prog w)) s.heap.objs.size [] := Heap.DictOfH.new s.heap
  have k0 : ∀ b o, s.heap.get? b = some o → (s.heap.push { cls := .type "dict", data := .dict #[] }).get? b = some o := fun b o e => Heap.get?_push_of_some _ e
  have hty : ({ s with heap := s.heap.push { cls := .type "dict", data := .dict #[] } } : Shared).TypeIs (.ref s.heap.objs.size) "dict" := Heap.DictOfH.typeIs (knd := tupleKind (mixKind prog w)) (s := { s with heap := s.heap.push { cls := .type "dict", data := .dict #[] } }) hnew
  refine ⟨hty, PySem.F.args_dict_init_2 _ _, ?_⟩
  unfold Builtin.«dict.__init__»
  refine wpAny_bind ?_
  unfold Builtin.Dict.selfAndRest
  refine wpAny_bind (wpAny_notOrdered_dict hty ?_)
  show wpAny _ _ (pure (s.heap.objs.size, [Value.ref l])) _ _ _
  refine wpAny_pure ?_
  show wpAny _ _ (Builtin.Dict.updateFrom "dict.__init__" s.heap.objs.size (.ref l) [] .none) _ _ _
  unfold Builtin.Dict.updateFrom
  refine wpAny_bind (wpAny_typeOf (T := "list") ⟨ol, k0 _ _ hl, hc⟩ ?_)
  rw [if_pos (by first | decide | rfl | simp)]
  refine wpAny_bind (miss_list (k0 _ _ hl) hc hdat hd hh fun h1 tk1 hk1 => ?_)
  rw [if_pos (show (none : Option Value).isNone = true from rfl)]
  refine wpAny_bind (wpAny_rule ?_)
  have hl1 : h1.IsList l items := ⟨ol, hk1 _ _ (k0 _ _ hl), hc, n, hdat⟩
  have hS1 : s.heap.objs.size < h1.objs.size := by
    have e : (s.heap.push { cls := .type "dict", data := .dict #[] }).get? s.heap.objs.size = some { cls := .type "dict", data := .dict #[] } := Heap.get?_push_size _ rfl
    exact Heap.lt_size (hk1 _ _ e)
  refine wpAny_bind (wpAny_pyIter_list hl1 ?_)
  have k2 : ∀ b o, h1.get? b = some o → (h1.push { cls := .type "list_iterator", data := .fields #[.ref l, .int 0 0] }).get? b = some o := fun b o e => Heap.get?_push_of_some _ e
  have hlt : l < s.heap.objs.size := Heap.lt_size hl
  have key := updH_loop (prog := prog) (w := w) (A := A.in1) (R := wants (fun r s₂ => r = .none ∧ Q (.ref s.heap.objs.size) s₂) E) (S := s.heap.objs.size) (I := h1.objs.size) (l := l) (items := items) (res := Value.none) (show A.units + 1 + 2 < cLine by omega) hh
    (Nat.ne_of_lt (Nat.lt_trans hlt hS1)) (Nat.ne_of_lt hS1) (Nat.ne_of_gt hlt) prs 0 [] 0 0
    { s with heap := h1.push { cls := .type "list_iterator", data := .fields #[.ref l, .int 0 0] }, toks := tk1 } (by rw [hsz, Nat.zero_add]) (by rw [List.length_nil, Nat.zero_add]; exact hln)
    (fun j q e => by
      obtain ⟨b, e1, e2, e3⟩ := ht j q e
      have hb : b < s.heap.objs.size := e2.lt
      obtain ⟨o, its, n3, ho, r⟩ := e3
      exact ⟨b, by rw [Nat.zero_add]; exact e1, Nat.ne_of_lt hb, e2.keeps fun c o z => k2 _ _ (hk1 _ _ (k0 _ _ z)), ⟨o, its, n3, k2 _ _ (hk1 _ _ (k0 _ _ ho)), r⟩, Nat.ne_of_lt (Heap.lt_size ho)⟩)
    ⟨_, Heap.get?_push_size _ rfl, rfl, rfl⟩ (hl1.at fun o e => k2 _ _ e) (dh_move hnew fun b o e _ => k2 _ _ (hk1 _ _ e))
    (fun h' tk hd' k => ⟨rfl, h h' tk hd' fun b o e => k b o (Nat.ne_of_lt (Heap.lt_size e)) (Nat.ne_of_lt (Nat.lt_trans (Heap.lt_size e) hS1)) (k2 _ _ (hk1 _ _ (k0 _ _ e)))⟩)
  first
    | exact wpAny_pure ⟨plainId_quiet ud_plain _, key⟩
    | exact wpAny_bind (wpAny_pure (wpAny_pure ⟨plainId_quiet ud_plain _, key⟩))
end
end PL

namespace PL
open PySem PySem.Spec PyProof.Rows L2
/-! ### sorted lists of distinct pairs -/
def insU (p : Int × Int) : List (Int × Int) → List (Int × Int)
  | [] => [p]
  | q :: r => if SrtO.lexB p q = true then p :: q :: r else if p = q then q :: r else q :: insU p r
def sortU : List (Int × Int) → List (Int × Int)
  | [] => []
  | p :: r => insU p (sortU r)
def Lx (p q : Int × Int) : Prop := SrtO.lexB p q = true
theorem Lx.iff {p q : Int × Int} : Lx p q ↔ p.1 < q.1 ∨ (p.1 = q.1 ∧ p.2 < q.2) := SrtO.lexB_iff
theorem insU_mem (p x : Int × Int) : ∀ l : List (Int × Int), x ∈ insU p l ↔ x = p ∨ x ∈ l
  | [] => by simp [insU]
  | q :: r => by
    unfold insU
    split
    · simp
    · split
      · rename_i e
        subst e
        simp
      · rw [List.mem_cons, insU_mem p x r, List.mem_cons]
        constructor
        · rintro (h | h | h)
          · exact .inr (.inl h)
          · exact .inl h
          · exact .inr (.inr h)
        · rintro (h | h | h)
          · exact .inr (.inl h)
          · exact .inl h
          · exact .inr (.inr h)
theorem Lx.trans {p q r : Int × Int} (h : Lx p q) (k : Lx q r) : Lx p r := by
  rw [Lx.iff] at *
  omega
theorem Lx.tri (p q : Int × Int) (h : ¬ Lx p q) (n : p ≠ q) : Lx q p := by
  rw [Lx.iff] at *
  have : ¬ (p.1 = q.1 ∧ p.2 = q.2) := fun z => n (Prod.ext z.1 z.2)
  omega
theorem Lx.irr (p : Int × Int) : ¬ Lx p p := by
  rw [Lx.iff]
  omega
theorem insU_sorted (p : Int × Int) : ∀ l : List (Int × Int), l.Pairwise Lx → (insU p l).Pairwise Lx
  | [], _ => List.pairwise_singleton _ _
  | q :: r, h => by
    obtain ⟨h1, h2⟩ := List.pairwise_cons.mp h
    unfold insU
    split
    · rename_i c
      refine List.pairwise_cons.mpr ⟨fun x hx => ?_, h⟩
      rcases List.mem_cons.mp hx with rfl | hx
      · exact c
      · exact Lx.trans c (h1 x hx)
    · split
      · exact h
      · rename_i c n
        refine List.pairwise_cons.mpr ⟨fun x hx => ?_, insU_sorted p r h2⟩
        rcases (insU_mem p x r).mp hx with rfl | hx
        · exact Lx.tri _ _ c n
        · exact h1 x hx
theorem sortU_sorted : ∀ l : List (Int × Int), (sortU l).Pairwise Lx
  | [] => .nil
  | p :: r => insU_sorted p _ (sortU_sorted r)
theorem sortU_mem (x : Int × Int) : ∀ l : List (Int × Int), x ∈ sortU l ↔ x ∈ l
  | [] => Iff.rfl
  | p :: r => by
    show x ∈ insU p (sortU r) ↔ _
    rw [insU_mem, sortU_mem x r, List.mem_cons]
theorem lx_uniq : ∀ {l m : List (Int × Int)}, l.Pairwise Lx → m.Pairwise Lx → (∀ x, x ∈ l ↔ x ∈ m) → l = m
  | [], [], _, _, _ => rfl
  | [], q :: m, _, _, h => absurd ((h q).mpr List.mem_cons_self) (by simp)
  | p :: l, [], _, _, h => absurd ((h p).mp List.mem_cons_self) (by simp)
  | p :: l, q :: m, hl, hm, h => by
    obtain ⟨l1, l2⟩ := List.pairwise_cons.mp hl
    obtain ⟨m1, m2⟩ := List.pairwise_cons.mp hm
    have e : p = q := by
      rcases List.mem_cons.mp ((h p).mp List.mem_cons_self) with e | hp
      · exact e
      · rcases List.mem_cons.mp ((h q).mpr List.mem_cons_self) with e | hq
        · exact e.symm
        · exact absurd (Lx.trans (l1 q hq) (m1 p hp)) (Lx.irr p)
    subst e
    have : l = m := lx_uniq l2 m2 fun x => by
      constructor
      · intro hx
        rcases List.mem_cons.mp ((h x).mp (List.mem_cons_of_mem _ hx)) with e | hy
        · subst e
          exact absurd (l1 x hx) (Lx.irr x)
        · exact hy
      · intro hx
        rcases List.mem_cons.mp ((h x).mpr (List.mem_cons_of_mem _ hx)) with e | hy
        · subst e
          exact absurd (m1 x hx) (Lx.irr x)
        · exact hy
    rw [this]
/-! ### what a merge of key tuples has -/
theorem putAt_1 (k : List L2.Key) (v : Value) (y : KH) : (putAt k v y).1 = y.1 ∧ (putAt k v y).2.1 = y.2.1 := by
  unfold putAt
  split <;> exact ⟨rfl, rfl⟩
theorem storedH_has {acc : List KH} {k : List L2.Key} {a : Addr} {v : Value} {x : KH} (h : x ∈ storedH acc k a v) : (∃ y ∈ acc, y.1 = x.1 ∧ y.2.1 = x.2.1) ∨ (x.1 = k ∧ x.2.1 = a) := by
  unfold storedH at h
  split at h
  · obtain ⟨y, hy, rfl⟩ := List.mem_map.mp h
    exact .inl ⟨y, hy, (putAt_1 k v y).1.symm, (putAt_1 k v y).2.symm⟩
  · rcases List.mem_append.mp h with h | h
    · exact .inl ⟨x, h, rfl, rfl⟩
    · rw [List.mem_singleton.mp h]
      exact .inr ⟨rfl, rfl⟩
theorem storedH_old {acc : List KH} {k : List L2.Key} {a : Addr} {v : Value} {y : KH} (h : y ∈ acc) : ∃ x ∈ storedH acc k a v, x.1 = y.1 := by
  unfold storedH
  split
  · exact ⟨_, List.mem_map.mpr ⟨y, h, rfl⟩, (putAt_1 k v y).1⟩
  · exact ⟨y, List.mem_append_left _ h, rfl⟩
theorem storedH_key {acc : List KH} {k : List L2.Key} {a : Addr} {v : Value} : ∃ x ∈ storedH acc k a v, x.1 = k := by
  unfold storedH
  split
  · rename_i h
    cases e : atKey acc k with
    | none => rw [e] at h; cases h
    | some p =>
      unfold atKey at e
      cases e2 : acc.find? fun x => decide (x.1 = k) with
      | none => rw [e2] at e; cases e
      | some y =>
        have h1 := List.mem_of_find?_eq_some e2
        have h2 := List.find?_some e2
        exact ⟨_, List.mem_map.mpr ⟨y, h1, rfl⟩, (putAt_1 k v y).1.trans (of_decide_eq_true h2)⟩
  · exact ⟨(k, a, v), List.mem_append_right _ (List.mem_singleton.mpr rfl), rfl⟩
theorem mergedH_has : ∀ (r acc : List KH) {x : KH}, x ∈ mergedH acc r → ∃ y, (y ∈ acc ∨ y ∈ r) ∧ y.1 = x.1 ∧ y.2.1 = x.2.1
  | [], acc, x, h => ⟨x, .inl h, rfl, rfl⟩
  | q :: r, acc, x, h => by
    obtain ⟨y, hy, e1, e2⟩ := mergedH_has r (storedH acc q.1 q.2.1 q.2.2) h
    rcases hy with hy | hy
    · rcases storedH_has hy with ⟨z, hz, e3, e4⟩ | ⟨e3, e4⟩
      · exact ⟨z, .inl hz, e3.trans e1, e4.trans e2⟩
      · exact ⟨q, .inr List.mem_cons_self, e3.symm.trans e1, e4.symm.trans e2⟩
    · exact ⟨y, .inr (List.mem_cons_of_mem _ hy), e1, e2⟩
theorem mergedH_old : ∀ (r acc : List KH) {y : KH}, y ∈ acc → ∃ x ∈ mergedH acc r, x.1 = y.1
  | [], acc, y, h => ⟨y, h, rfl⟩
  | q :: r, acc, y, h => by
    obtain ⟨z, hz, e⟩ := storedH_old (k := q.1) (a := q.2.1) (v := q.2.2) h
    obtain ⟨x, hx, e2⟩ := mergedH_old r _ hz
    exact ⟨x, hx, e2.trans e⟩
theorem mergedH_key : ∀ (r acc : List KH) {y : KH}, y ∈ r → ∃ x ∈ mergedH acc r, x.1 = y.1
  | q :: r, acc, y, h => by
    rcases List.mem_cons.mp h with e | h
    · subst e
      obtain ⟨z, hz, e⟩ := storedH_key (acc := acc) (k := y.1) (a := y.2.1) (v := y.2.2)
      obtain ⟨x, hx, e2⟩ := mergedH_old r _ hz
      exact ⟨x, hx, e2.trans e⟩
    · exact mergedH_key r _ h
/-- the two integers of a pair in the heap -/
def kOf (h : Heap) (u : Value) : Int × Int := match u with
  | .ref a => match h.get? a with
    | some o => match o.data with
      | .seq its _ => match its.toList with
        | [.int x _, .int y _] => (x, y)
        | _ => (0, 0)
      | _ => (0, 0)
    | none => (0, 0)
  | _ => (0, 0)
theorem kOf_pair {h : Heap} {u : Value} {x y : Int} (p : Srt.IsPair h u x y) : kOf h u = (x, y) := by
  obtain ⟨a, o, t, t2, n, rfl, ho, hc, hd⟩ := p
  show (match h.get? a with
    | some o => match o.data with
      | .seq its _ => match its.toList with
        | [.int x _, .int y _] => (x, y)
        | _ => (0, 0)
      | _ => (0, 0)
    | none => (0, 0)) = _
  rw [ho]
  show (match o.data with
      | .seq its _ => match its.toList with
        | [.int x _, .int y _] => (x, y)
        | _ => (0, 0)
      | _ => (0, 0)) = _
  rw [hd]
section
variable {prog : Program} {w : World} {A : Around} {E : Value → Shared → Prop}
/-- sorted(d), the keys being pairs of integers -/
theorem sorted_dH {s : Shared} {d : Addr} {xs : List KH} {k : Value → Int × Int} {Q : Value → Shared → Prop} (lo : (d == sysModules) = false) (hh : A.handled = none) (hm : s.heap.DictOfH (tupleKind (mixKind prog w)) d xs) (hz : xs.length ≤ sizeLine)
    (hp : ∀ v ∈ xs.map fun x => Value.ref x.2.1, Srt.IsPair s.heap v (k v).1 (k v).2)
    (h : ∀ (h1 h' : Heap) (tk : Nat) (out : List Value), SrtO.Srtd (fun v u => SrtO.lexB (k v) (k u)) out → SrtO.Stb (fun v u => SrtO.lexB (k v) (k u)) out (xs.map fun x => Value.ref x.2.1) → (∀ b o, s.heap.get? b = some o → h1.get? b = some o) → (∀ b o, h1.get? b = some o → h'.get? b = some o) → (∃ n, h'.get? h1.objs.size = some (seqObj "list" out.toArray n)) → Q (.ref h1.objs.size) { s with heap := h', toks := tk }) :
    wpAny (model prog w) A (call (.builtin "sorted") [.ref d]) Q E s := by
  obtain ⟨o, es, ep, ho, hx, hd, he, his, hn⟩ := hm
  have hsz : es.size = xs.length := size_of_entries he
  refine Calls.call_function_entry PyProof.Rows.kind_sorted PyProof.Rows.plain_sorted PyProof.Rows.entry_sorted (PyProof.Rows.args_sorted1 _) ?_
  unfold Builtin.«sorted»
  refine wpAny_bind (m := checkCount "sorted" 1 1 _) (wpAny_pure ?_)
  refine wpAny_bind (PySem.W.kdu_collect (A := A.in1) (kdl_raw (prog := prog) (w := w) lo hx hd) hh ho (by rw [hsz]; exact hz) fun h' tk acc hk hacc => ?_)
  have ea : acc.toList = xs.map fun x => Value.ref x.2.1 := by
    refine List.ext_getElem? fun j => ?_
    rw [Array.getElem?_toList, List.getElem?_map]
    cases ej : acc[j]? with
    | none =>
      have : acc.size ≤ j := Array.getElem?_eq_none_iff.mp ej
      rw [List.getElem?_eq_none (by rw [hacc.1, hsz] at this; exact this)]
      rfl
    | some v =>
      obtain ⟨en, e1, e2⟩ := hacc.2 j v ej
      rw [entry_at he j] at e1
      cases ex : xs[j]? with
      | none => rw [ex] at e1; cases e1
      | some x =>
        rw [ex] at e1
        have e3 : entryOfKey (tupleKind (mixKind prog w)) x = en := Option.some.inj e1
        rw [e2, ← e3]
        rfl
  have hal : acc.toList.length ≤ sizeLine := by rw [ea, List.length_map]; exact hz
  refine wpAny_bind (wpAny_newList ?_ hal)
  have hoL : (h'.push (seqObj "list" acc.toList.toArray 0)).get? h'.objs.size = some (seqObj "list" acc.toList.toArray 0) := Heap.get?_push_size _ rfl
  show wpAny _ _ _ _ _ { s with heap := h'.push (seqObj "list" acc.toList.toArray 0), toks := tk }
  have keep : ∀ b o, s.heap.get? b = some o → (h'.push (seqObj "list" acc.toList.toArray 0)).get? b = some o := fun b o e => Heap.get?_push_of_some _ (hk b o e)
  refine wpAny_bind (wpAny_holding (wpAny_call_entry PyProof.Rows.slot_list_sort ⟨_, hoL, rfl⟩ PyProof.Rows.entry_list_sort
    (SrtO.list_sort_ord (s := { s with heap := h'.push (seqObj "list" acc.toList.toArray 0), toks := tk }) (SrtO.swo_lex k) hoL hal (fun h2 => ?_) fun out hs hb => ⟨_, rfl, ?_⟩) (PyProof.Rows.args_list_sort _)))
  · refine SrtO.pairs_sortableO (s := { s with heap := h'.push (seqObj "list" acc.toList.toArray 0), toks := tk }) (by omega) (fun v hm => (hp v (by rw [← ea]; exact hm)).keeps fun b o e _ => keep b o e) fun o e => ?_
    have e' : some o = some (seqObj "list" acc.toList.toArray 0) := e.symm.trans hoL
    cases e'
    intro c
    exact absurd (Value.type.inj c) (by decide)
  · obtain ⟨e2, he2⟩ := PyProof.Rows.sortedHeap_at (vs := acc.toList) (out := out.toArray) hoL
    rw [ea] at hb
    refine wpAny_pure ⟨_, rfl, h h' _ _ out hs hb hk (fun b o e => ?_) ⟨e2, he2⟩⟩
    have hb : b < h'.objs.size := Heap.lt_size e
    rw [PyProof.Rows.sortedHeap_old (Nat.ne_of_lt hb) (by rw [size_push']; exact Nat.lt_succ_of_lt hb)]
    exact Heap.get?_push_of_some _ e
end
end PL
namespace PL
open PySem PySem.Spec PyProof.Rows L2
/-! ### sorted(dict(xs)) as a rule -/
section
variable {X : Cx}
/-- a pair of integers, a thing: what dict is made of -/
structure PrOk (K : PySem.W.Frag) (H : Hp) (x : V) (b : Addr) (i j : Int) : Prop where
  key : SqT K H b [.int i, .int j]
  out : ∃ t v, x = .ref t ∧ SqT K H t [.ref b, v]
def PairsAt (K : PySem.W.Frag) (H : Hp) : List V → List (Addr × (Int × Int)) → Prop := Paired fun x q => PrOk K H x q.1 q.2.1 q.2.2
def KeysAt (K : PySem.W.Frag) (H : Hp) : List V → List (Int × Int) → Prop := Paired fun x q => ∃ b, x = .ref b ∧ SqT K H b [.int q.1, .int q.2]
def tSD (K : PySem.W.Frag) (ta : TE) : TE := fun σ H Q => ta σ H fun x H1 => ∃ (l : Addr) (xs : List V) (qs : List (Addr × (Int × Int))), x = .ref l ∧ SqL K H1 l xs ∧ PairsAt K H1 xs qs ∧
  ∀ p ys, H1 p = none → KeysAt K H1 ys (sortU (qs.map (·.2))) → Q (.ref p) (upd H1 p (.lst ys))
theorem prs_of {pins : List (Addr × Obj)} {σ : L2.St} {H : Hp} {s : Shared} (I : Inv X pins σ H s) : ∀ {xs : List V} {qs : List (Addr × (Int × Int))} {us : List Value}, PairsAt X.K H xs qs → Vals xs us →
    ∃ prs : List KH, prs.length = us.length ∧ prs.map (fun q => (q.1, q.2.1)) = qs.map (fun q => ([Sum.inl q.2.1, Sum.inl q.2.2], q.1)) ∧
      ∀ (j : Nat) (q : KH), prs[j]? = some q → ∃ b : Addr, us[j]? = some (.ref b) ∧ IsTup s.heap b #[.ref q.2.1, q.2.2] ∧ IsTupleKey (mixKind X.prog X.w) s.heap q.1 q.2.1
  | _, _, _, .nil, .nil => ⟨[], rfl, rfl, fun j q e => by simp at e⟩
  | x :: xs, q :: qs, u :: us, .cons h t, .cons ru rt => by
    obtain ⟨prs, h1, h2, h3⟩ := prs_of I t rt
    obtain ⟨hk, tt, v, ex, ht⟩ := h
    subst ex
    obtain rfl : u = Value.ref tt := ru
    obtain ⟨its, rv, hT, _⟩ := I.tuple ht
    obtain ⟨u1, u2, ei, r1, r2⟩ := vals2 rv
    subst ei
    obtain rfl : u1 = Value.ref q.1 := r1
    obtain ⟨its2, rv2, hT2, _⟩ := I.tuple hk
    refine ⟨([Sum.inl q.2.1, Sum.inl q.2.2], q.1, u2) :: prs, by rw [List.length_cons, List.length_cons, h1], by rw [List.map_cons, List.map_cons, h2], fun j z e => ?_⟩
    cases j with
    | zero =>
      have e' := Option.some.inj e
      subst e'
      obtain ⟨o, ho, hc, n, hd⟩ := hT2
      exact ⟨tt, rfl, hT, o, its2.toArray, n, ho, hc, hd, by
        have := items_are (P := X.prog) (w := X.w) (ks := [Sum.inl q.2.1, Sum.inl q.2.2]) (us := its2) rv2
        simpa using this⟩
    | succ j =>
      obtain ⟨b, e1, e2⟩ := h3 j z (by simpa using e)
      exact ⟨b, by simpa using e1, e2⟩
theorem pair_raw {h : Heap} {b : Addr} {i j : Int} {P : Program} {w : World} (x : IsTupleKey (mixKind P w) h [Sum.inl i, Sum.inl j] b) : Srt.IsPair h (.ref b) i j := by
  obtain ⟨o, items, n, ho, hc, hd, hi⟩ := x
  obtain ⟨l⟩ := items
  have hi' : ItemsAre (mixKind P w) [Sum.inl i, Sum.inl j] l := hi
  cases hi' with
  | @cons _ u1 _ l1 a1 r1 =>
    cases r1 with
    | @cons _ u2 _ l2 a2 r2 =>
      cases r2
      rcases keyIs_shape (show keyIs (Sum.inl i) u1 = true from a1) with ⟨i1, t1, ek, ev⟩ | ⟨z, t, ek, ev⟩
      · cases ek
        subst ev
        rcases keyIs_shape (show keyIs (Sum.inl j) u2 = true from a2) with ⟨i2, t2, ek, ev⟩ | ⟨z, t, ek, ev⟩
        · cases ek
          subst ev
          exact ⟨b, o, t1, t2, n, rfl, ho, hc, hd⟩
        · cases ek
      · cases ek
theorem pe_sortedDict {a : Expr} {ta : TE} {p p2 q pos : Pos} (hc : X.calm = true) (hu : X.A.units + 64 < cLine) (hg : Gl X "sorted") (hm : X.mg "sorted" = none) (hg2 : Gl X "dict") (hm2 : X.mg "dict" = none) (hbs : bootBuiltins "sorted" = some (.builtin "sorted")) (hbd : bootBuiltins "dict" = some (.type "dict")) (ha : PE X a ta)
    (na : starEach [a] X.env = (false, eval a X.env) :: starEach [] X.env := by rfl) : PE X (.Call (.Name "sorted" p) [.Call (.Name "dict" p2) [a] [] q] [] pos) (tSD X.K ta) := by
  refine ⟨fun pins s σ H Q I h => ?_⟩
  refine Call_ (ld_blt I hg hm hbs ?_)
  refine PyProof.Rows.callWith_builtin1 (PyProof.Rows.args_cons ?_ rfl) rfl rfl
  refine Call_ (ld_blt I hg2 hm2 hbd ?_)
  refine PyProof.Rows.callWith_type1 (PyProof.Rows.args_cons (thn (ha.run pins s σ H _ I h) fun v s1 ⟨x, H1, I1, r1, q1⟩ => PyProof.Rows.args_nil ?_) na) na rfl
  obtain ⟨l, xs, qs, rfl, hq, hps, q1⟩ := q1
  cases r1
  obtain ⟨its, rv, pl, hz⟩ := I1.list hq
  obtain ⟨prs, e1, e2, e3⟩ := prs_of I1 hps rv
  obtain ⟨o, n, ho, hcl, hd, hdat⟩ := pl
  have hlen : its.length ≤ sizeLine := by rw [← rv.length]; exact hz
  refine call_dict_tups (n := n) (prs := prs) (by omega) (I1.ok.hd hc) ho hcl hd hdat (by rw [List.size_toArray, e1]) (by rw [e1]; exact hlen) (fun j z e => ?_) fun h' tk hD hk => ?_
  · obtain ⟨b, a1, a2, a3⟩ := e3 j z e
    exact ⟨b, by simpa using a1, a2, a3⟩
  refine PyProof.Rows.args_nil ?_
  have I2 : Inv X pins σ H1 { s1 with heap := h', toks := tk } := I1.kept hk
  have lo : (s1.heap.objs.size == sysModules) = false := beq_eq_false_iff_ne.mpr (Nat.ne_of_gt I1.big)
  have hml : (mergedH [] prs).length ≤ sizeLine := by
    have := mergedH_le prs []
    rw [List.length_nil, Nat.zero_add, e1] at this
    exact Nat.le_trans this hlen
  obtain ⟨od, es, ep, hod, hxd, hdd, hes, his, hnd⟩ := id hD
  -- each key of the dict is one of the pairs
  have has : ∀ x ∈ mergedH [] prs, ∃ q ∈ qs, x.1 = [Sum.inl q.2.1, Sum.inl q.2.2] ∧ x.2.1 = q.1 := fun x hx => by
    obtain ⟨y, hy, f1, f2⟩ := mergedH_has prs [] hx
    rcases hy with hy | hy
    · cases hy
    · have : (y.1, y.2.1) ∈ prs.map fun q => (q.1, q.2.1) := List.mem_map.mpr ⟨y, hy, rfl⟩
      rw [e2] at this
      obtain ⟨q, hq, eq⟩ := List.mem_map.mp this
      injection eq with g1 g2
      exact ⟨q, hq, f1.symm.trans g1.symm, f2.symm.trans g2.symm⟩
  have pr : ∀ x ∈ mergedH [] prs, ∀ q : Addr × (Int × Int), x.1 = [Sum.inl q.2.1, Sum.inl q.2.2] → Srt.IsPair h' (.ref x.2.1) q.2.1 q.2.2 := fun x hx q eq => pair_raw (P := X.prog) (w := X.w) (by rw [← eq]; exact his x hx)
  have hpair : ∀ v ∈ (mergedH [] prs).map fun x => Value.ref x.2.1, Srt.IsPair h' v (kOf h' v).1 (kOf h' v).2 := fun v hv => by
    obtain ⟨x, hx, rfl⟩ := List.mem_map.mp hv
    obtain ⟨q, _, f1, _⟩ := has x hx
    have z := pr x hx q f1
    rw [kOf_pair z]
    exact z
  refine sorted_dH (k := kOf h') lo (I2.ok.hd hc) hD hml hpair fun h2 h3 tk2 out hs hb k1 k2 hnew => ?_
  have I3 : Inv X pins σ H1 { s1 with heap := h2, toks := tk2 } := I2.kept k1
  -- the sorted list, element by element
  have hout : ∀ v ∈ out, ∃ x ∈ mergedH [] prs, v = Value.ref x.2.1 := fun v hv => by
    obtain ⟨x, hx, e⟩ := List.mem_map.mp (hb.perm.mem_iff.mp hv)
    exact ⟨x, hx, e.symm⟩
  have hkeys : KeysAt X.K H1 (out.map bkV) (out.map (kOf h')) := by
    clear hs hb hnew
    induction out with
    | nil => exact .nil
    | cons v out ih =>
      obtain ⟨x, hx, rfl⟩ := hout _ List.mem_cons_self
      obtain ⟨q, hqm, f1, f2⟩ := has x hx
      refine .cons ⟨x.2.1, rfl, ?_⟩ (ih fun u hu => hout u (List.mem_cons_of_mem _ hu))
      rw [kOf_pair (pr x hx q f1), f2]
      obtain ⟨j, hj⟩ := List.getElem?_of_mem hqm
      obtain ⟨xv, _, hpo⟩ := L2.DX.pget hps hj
      exact hpo.key
  have hsorted : out.map (kOf h') = sortU (qs.map (·.2)) := by
    refine lx_uniq ?_ (sortU_sorted _) fun z => ?_
    · -- strictly ascending
      have nd : (out.map (kOf h')).Nodup := by
        have p1 : (out.map (kOf h')).Perm (((mergedH [] prs).map fun x => Value.ref x.2.1).map (kOf h')) := hb.perm.map _
        refine p1.nodup_iff.mpr ?_
        rw [List.map_map]
        refine List.pairwise_map.mpr ?_
        have nd1 : (mergedH [] prs).Pairwise fun x y => x.1 ≠ y.1 := List.pairwise_map.mp hnd
        refine List.Pairwise.imp_of_mem (fun {x y} hx hy hne e => hne ?_) nd1
        obtain ⟨q1, _, f1, _⟩ := has x hx
        obtain ⟨q2, _, f2, _⟩ := has y hy
        have e' : kOf h' (.ref x.2.1) = kOf h' (.ref y.2.1) := e
        rw [kOf_pair (pr x hx q1 f1), kOf_pair (pr y hy q2 f2)] at e'
        injection e' with g1 g2
        rw [f1, f2, g1, g2]
      have sr : (out.map (kOf h')).Pairwise fun x y => SrtO.lexB y x = false := by
        refine List.pairwise_map.mpr ?_
        exact hs
      have both := nd.and sr
      refine List.Pairwise.imp (fun {x y} hxy => ?_) both
      refine Lx.tri y x (fun c => ?_) (Ne.symm hxy.1)
      have := hxy.2
      rw [show SrtO.lexB y x = true from c] at this
      cases this
    · rw [sortU_mem]
      constructor
      · intro hz
        obtain ⟨v, hv, rfl⟩ := List.mem_map.mp hz
        obtain ⟨x, hx, rfl⟩ := hout v hv
        obtain ⟨q, hqm, f1, _⟩ := has x hx
        rw [kOf_pair (pr x hx q f1)]
        exact List.mem_map.mpr ⟨q, hqm, rfl⟩
      · intro hz
        obtain ⟨q, hqm, rfl⟩ := List.mem_map.mp hz
        have : ([Sum.inl q.2.1, Sum.inl q.2.2], q.1) ∈ prs.map fun q => (q.1, q.2.1) := by
          rw [e2]
          exact List.mem_map.mpr ⟨q, hqm, rfl⟩
        obtain ⟨y, hy, ey⟩ := List.mem_map.mp this
        injection ey with g1 g2
        obtain ⟨x, hx, ex⟩ := mergedH_key prs [] hy
        refine List.mem_map.mpr ⟨.ref x.2.1, hb.perm.mem_iff.mpr (List.mem_map.mpr ⟨x, hx, rfl⟩), ?_⟩
        exact kOf_pair (pr x hx q (ex.trans g1))
  obtain ⟨n2, hn2⟩ := hnew
  have h3' : ∀ u ∈ out, ∃ a, u = Value.ref a := fun u hu => by
    obtain ⟨x, _, e⟩ := hout u hu
    exact ⟨_, e⟩
  have hlo : (out.map bkV).length ≤ sizeLine := by
    rw [List.length_map, hb.perm.length_eq, List.length_map]
    exact hml
  refine ⟨.ref h2.objs.size, upd H1 h2.objs.size (.lst (out.map bkV)), I3.laid (t' := tk2) k2 (Nat.le_refl _) ⟨hlo, out, n2, bkV_vals h3', hn2⟩, rfl, q1 _ _ (I3.hok.fresh (Nat.le_refl _)) ?_⟩
  rw [← hsorted]
  exact hkeys
end
end PL
namespace PL
open PySem PySem.Spec PyProof.Rows L2
/-! ### the same over the store -/
def pD (p : Int × Int) : D := .tup [.int p.1, .int p.2]
def dPr : D → Option (Int × Int)
  | .tup [.int i, .int j] => some (i, j)
  | _ => none
def dPrK : D → Option (Int × Int)
  | .tup [k, _] => dPr k
  | _ => none
def dPrs : List D → Option (List (Int × Int)) := mapO dPrK
def sdD (x : D) : M D := fun s => match seqD s x with
  | some ds => (match dPrs ds with
    | some ps => allocC (.lst ((sortU ps).map pD)) s
    | none => .stuck)
  | none => .stuck
theorem dPr_rep {K : PySem.W.Frag} {μ : List Addr} {H : Hp} {d : D} {v : V} {p : Int × Int} (e : dPr d = some p) (r : Rep K μ H v d) : ∃ b, v = .ref b ∧ SqT K H b [.int p.1, .int p.2] := by
  unfold dPr at e
  split at e
  · cases e
    cases r with
    | tup hs hl =>
      cases hl with
      | cons a1 t1 =>
        cases t1 with
        | cons a2 t2 =>
          cases t2
          cases a1
          cases a2
          exact ⟨_, rfl, hs⟩
  · cases e
theorem dPrs_rep {K : PySem.W.Frag} {μ : List Addr} {H : Hp} : ∀ {ds : List D} {xs : List V} {ps : List (Int × Int)}, dPrs ds = some ps → RepL K μ H xs ds → ∃ qs, PairsAt K H xs qs ∧ qs.map (·.2) = ps
  | [], _, ps, e, .nil => by
    cases e
    exact ⟨[], .nil, rfl⟩
  | d :: r, _, ps, e, .cons h t => by
    unfold dPrs mapO at e
    cases q : dPrK d with
    | none => rw [q] at e; cases e
    | some p =>
      rw [q] at e
      cases q2 : mapO dPrK r with
      | none => rw [q2] at e; cases e
      | some ms =>
        rw [q2] at e
        cases e
        obtain ⟨qs, h1, h2⟩ := dPrs_rep (ds := r) q2 t
        unfold dPrK at q
        split at q
        · cases h with
          | tup hs hl =>
            cases hl with
            | cons a1 t1 =>
              cases t1 with
              | cons a2 t2 =>
                cases t2
                obtain ⟨b, rfl, hb⟩ := dPr_rep q a1
                exact ⟨(b, p) :: qs, .cons ⟨hb, _, _, rfl, hs⟩ h1, by rw [List.map_cons, h2]⟩
        · cases q
theorem keys_rep {K : PySem.W.Frag} {μ : List Addr} {H : Hp} : ∀ {ys : List V} {ps : List (Int × Int)}, KeysAt K H ys ps → RepL K μ H ys (ps.map pD)
  | _, _, .nil => .nil
  | _, _, .cons h t => by
    obtain ⟨b, rfl, hb⟩ := h
    exact .cons (.tup hb (.cons (.int _) (.cons (.int _) .nil))) (keys_rep t)
section
variable {X : Cx} {E : XK} {a : Expr} {ma : Env → M D} {pos p p2 q : Pos}
theorem se_sd (hc : X.calm = true) (hu : X.A.units + 64 < cLine) (ha : SE X E a ma) (hg : Gl X "sorted") (hm : X.mg "sorted" = none) (hg2 : Gl X "dict") (hm2 : X.mg "dict" = none) (hbs : bootBuiltins "sorted" = some (.builtin "sorted") := by decide +kernel) (hbd : bootBuiltins "dict" = some (.type "dict") := by decide +kernel)
    (na : starEach [a] X.env = (false, eval a X.env) :: starEach [] X.env := by rfl) : SE X E (.Call (.Name "sorted" p) [.Call (.Name "dict" p2) [a] [] q] [] pos) (unM sdD ma) := by
  refine PE.imp (pe_sortedDict hc hu hg hm hg2 hm2 hbs hbd ha na) ?_
  rintro σ H Q ⟨μ, env, s, hv, hs, post⟩
  refine ⟨μ, env, s, hv, hs, (Post.bind post).mono fun x s1 μ1 H1 g1 hs1 p1 v hx => ?_⟩
  unfold sdD at p1
  cases e1 : seqD s1 x with
  | none => simp only [e1] at p1; exact (show False from p1).elim
  | some ds =>
    cases e2 : dPrs ds with
    | none => simp only [e1, e2] at p1; exact (show False from p1).elim
    | some ps =>
      simp only [e1, e2] at p1
      obtain ⟨l, xs, rfl, hq, hl⟩ := seqD_rep hs1 hx e1
      obtain ⟨qs, h1, h2⟩ := dPrs_rep e2 hl
      refine ⟨l, xs, qs, rfl, hq, h1, fun p ys hp hk => ?_⟩
      rw [h2] at hk
      exact post_alloc hs1 (keys_rep hk) p1 p hp
end
end PL

/-! PL9: in, slices, dict operations, statements that are never reached. -/
namespace PL
open PySem PySem.Spec PyProof.Rows L2
section
variable {X : Cx} {E : XK}
/-! ### what is never run -/
theorem se_stuck {e : Expr} (h : ∃ t, PE X e t) : SE X E e (fun _ => stuck) := by
  obtain ⟨t, h⟩ := h
  refine PE.imp h ?_
  rintro σ H Q ⟨μ, env, s, hv, hs, post⟩
  exact (show False from post).elim
theorem ss_stuck {st : Stmt} : SS X E st (fun _ => stuck) := ⟨fun pins s σ H Dd I q => by
  obtain ⟨μ, env, s, hv, hs, post⟩ := q
  exact (show False from post).elim⟩
theorem se_never {e : Expr} : SE X E e (fun _ => stuck) := ⟨fun pins s σ H Q I q => by
  obtain ⟨μ, env, s, hv, hs, post⟩ := q
  exact (show False from post).elim⟩
/-! ### x in y -/
def inP (s : S) (x : D) (l : Option PyData) : R D := match toPy s 12 x, l with
  | some d, some (.list es) => if (SeqAt.shaped d && SeqAt.shaped (.list es)) = true then .ok (.bl (es.any fun z => PyData.eqv z d)) s else .stuck
  | _, _ => .stuck
def flatD : D → Option V
  | .non => some .non
  | .bl b => some (.bl b)
  | .int i => some (.int i)
  | .str x => some (.str x)
  | _ => none
def inT (s : S) (x : D) (ds : List D) : R D := match flatD x, mapO flatD ds with
  | some v, some vs => .ok (.bl (inV v vs)) s
  | _, _ => .stuck
def inD (x y : D) : M D := fun s => match y with
  | .ptr n => (match s[n]? with
    | some (.dK kvs) => (match dKey x with
      | some k => .ok (.bl (valD kvs k).isSome) s
      | none => .stuck)
    | some (.lst ds) => inP s x (toPy s 13 (.ptr n))
    | _ => .stuck)
  | .flst ds => inP s x (toPy s 13 (.flst ds))
  | .tup ds => inT s x ds
  | _ => .stuck
def ninD : D → D → M D := notD inD
theorem flatD_rep {K : PySem.W.Frag} {μ : List Addr} {H : Hp} {d : D} {v w : V} (e : flatD d = some w) (r : Rep K μ H v d) : v = w ∧ flatV w = true := by
  cases r <;> first | (cases e; exact ⟨rfl, rfl⟩) | cases e
theorem flatDs_rep {K : PySem.W.Frag} {μ : List Addr} {H : Hp} : ∀ {ds : List D} {xs ws : List V}, mapO flatD ds = some ws → RepL K μ H xs ds → xs = ws ∧ ws.all flatV = true
  | [], _, ws, e, .nil => by cases e; exact ⟨rfl, rfl⟩
  | d :: r, _, ws, e, .cons h t => by
    unfold mapO at e
    cases q : flatD d with
    | none => rw [q] at e; cases e
    | some w =>
      rw [q] at e
      cases q2 : mapO flatD r with
      | none => rw [q2] at e; cases e
      | some ms =>
        rw [q2] at e
        cases e
        obtain ⟨h1, h2⟩ := flatD_rep q h
        obtain ⟨h3, h4⟩ := flatDs_rep q2 t
        exact ⟨by rw [h1, h3], by rw [List.all_cons, h2, h4]; rfl⟩
/-- what `in` gives, as a fact of both sides -/
theorem inD_core {K : PySem.W.Frag} {μ : List Addr} {H : Hp} {st : S} {dx dy : D} {x y : V} {r : D} {st' : S} (hs : SimS K μ H st) (hx : Rep K μ H x dx) (hy : Rep K μ H y dy) (e : inD dx dy st = .ok r st') :
    st' = st ∧ ∃ b, r = .bl b ∧ ((∃ a o, y = .ref a ∧ DGet H a x o ∧ b = o.isSome) ∨ (∃ d es, Dp K H x d ∧ Dp K H y (.list es) ∧ SeqAt.shaped d = true ∧ SeqAt.shaped (.list es) = true ∧ b = es.any fun z => PyData.eqv z d) ∨
      ∃ p xs, y = .ref p ∧ SqT K H p xs ∧ flatV x = true ∧ xs.all flatV = true ∧ b = inV x xs) := by
  have lst : ∀ {l : D} (hl : Rep K μ H y l), inP st dx (toPy st 13 l) = .ok r st' → st' = st ∧ ∃ b, r = .bl b ∧ ((∃ a o, y = .ref a ∧ DGet H a x o ∧ b = o.isSome) ∨ (∃ d es, Dp K H x d ∧ Dp K H y (.list es) ∧ SeqAt.shaped d = true ∧ SeqAt.shaped (.list es) = true ∧ b = es.any fun z => PyData.eqv z d) ∨
      ∃ p xs, y = .ref p ∧ SqT K H p xs ∧ flatV x = true ∧ xs.all flatV = true ∧ b = inV x xs) := fun {l} hl e => by
    unfold inP at e
    split at e
    · rename_i d es e1 e2
      split at e
      · rename_i hsh
        rw [Bool.and_eq_true] at hsh
        cases e
        exact ⟨rfl, _, rfl, .inr (.inl ⟨d, es, toPy_dp hs 12 _ _ d e1 hx, toPy_dp hs 13 _ _ _ e2 hl, hsh.1, hsh.2, rfl⟩)⟩
      · cases e
    · cases e
  unfold inD at e
  cases hy with
  | @ptr a n hn =>
    simp only [] at e
    cases ec : st[n]? with
    | none => simp only [ec] at e; cases e
    | some c =>
      simp only [ec] at e
      cases c with
      | lst ds => exact lst (.ptr hn) e
      | dK kvs =>
        simp only [] at e
        cases ek : dKey dx with
        | none => simp only [ek] at e; cases e
        | some k =>
          simp only [ek] at e
          cases e
          obtain ⟨xs, h1, h2⟩ := cell_dK hs hn ec
          have eu := dKey_rep ek hx
          subst eu
          refine ⟨rfl, _, rfl, .inl ⟨a, valV xs k, rfl, DGet.k h1, ?_⟩⟩
          cases ev : valD kvs k with
          | none =>
            have : valV xs k = none := lmap_none h2 (by
              unfold valD at ev
              exact ev)
            rw [this]
            rfl
          | some d =>
            obtain ⟨w, hw, _⟩ := lmap_fst h2 ev
            rw [hw]
            rfl
      | dT kvs => cases e
      | ins C fs => cases e
  | @flst a xs ds h l => exact lst (.flst h l) e
  | @tup a xs ds h l =>
    simp only [] at e
    unfold inT at e
    split at e
    · rename_i v vs e1 e2
      cases e
      obtain ⟨h1, h2⟩ := flatD_rep e1 hx
      obtain ⟨h3, h4⟩ := flatDs_rep e2 l
      subst h1 h3
      exact ⟨rfl, _, rfl, .inr (.inr ⟨a, _, rfl, h, h2, h4, rfl⟩)⟩
    · cases e
  | _ => cases e
theorem inD_noexc {dx dy : D} {st st' : S} {c : Str} (e : inD dx dy st = .exc c st') : False := by
  unfold inD inP inT at e
  repeat (first | cases e | split at e)
theorem op_inDD (hu : X.A.units + 65 < cLine) : OpR X (compareOp .In) (R2of X.K E inD) := by
  intro pins s σ H x y v u Q I rx ry h
  obtain ⟨μ, st, dx, dy, hs, hx, hy, post⟩ := h
  cases e : inD dx dy st with
  | stuck => rw [e] at post; exact (show False from post).elim
  | exc c s' => exact (inD_noexc e).elim
  | ok r s' =>
    rw [e] at post
    obtain ⟨rfl, b, rfl, ⟨a, o, rfl, g, rfl⟩ | ⟨d, es, h1, h2, h3, h4, rfl⟩ | ⟨p, xs, rfl, h1, h2, h3, rfl⟩⟩ := inD_core hs hx hy e
    · obtain rfl : u = Value.ref a := ry
      exact d_in (by omega) I g rx fun s1 I1 => ⟨.bl _, H, I1, rfl, post_bl hs post⟩
    · exact op_inD hu pins s σ H _ _ v u Q I rx ry ⟨d, es, h1, h2, h3, h4, post_bl hs post⟩
    · exact op_in_seq pins s σ H _ _ v u Q I rx ry ⟨p, xs, rfl, .inr h1, h2, h3, post_bl hs post⟩
theorem op_ninDD (hu : X.A.units + 65 < cLine) : OpR X (compareOp .NotIn) (R2of X.K E ninD) := by
  intro pins s σ H x y v u Q I rx ry h
  obtain ⟨μ, st, dx, dy, hs, hx, hy, post⟩ := h
  unfold ninD notD at post
  rw [bind_run] at post
  cases e : inD dx dy st with
  | stuck => rw [e] at post; exact (show False from post).elim
  | exc c s' => exact (inD_noexc e).elim
  | ok r s' =>
    rw [e] at post
    obtain ⟨rfl, b, rfl, ⟨a, o, rfl, g, rfl⟩ | ⟨d, es, h1, h2, h3, h4, rfl⟩ | ⟨p, xs, rfl, h1, h2, h3, rfl⟩⟩ := inD_core hs hx hy e
    · obtain rfl : u = Value.ref a := ry
      exact d_notIn (by omega) I g rx fun s1 I1 => ⟨.bl _, H, I1, rfl, post_bl hs post⟩
    · exact op_notInD hu pins s σ H _ _ v u Q I rx ry ⟨d, es, h1, h2, h3, h4, post_bl hs post⟩
    · exact op_notIn_seq pins s σ H _ _ v u Q I rx ry ⟨p, xs, rfl, .inr h1, h2, h3, post_bl hs post⟩
/-! ### slices -/
def TOof (K : PySem.W.Frag) (E : XK) (m : Env → M (Option Int)) : TO := fun σ H Q => ∃ μ env s, SimV K μ H σ env ∧ SimS K μ H s ∧ Post K E μ H (m env s) (fun o _ _ H' => Q o H')
def SO (X : Cx) (E : XK) (e : Option Expr) (m : Env → M (Option Int)) : Prop := PO X e (TOof X.K E m)
theorem PO.imp {e : Option Expr} {t t' : TO} (h : PO X e t) (f : ∀ σ H Q, t' σ H Q → t σ H Q) : PO X e t' := ⟨fun pins s σ H Q I q => h.run pins s σ H Q I (f σ H Q q)⟩
def noP (_ : Env) : M (Option Int) := pure none
def inPt (m : Env → M D) (env : Env) : M (Option Int) := m env >>= fun d => match d with
  | .int i => pure (some i)
  | _ => stuck
theorem so_none : SO X E none noP := PO.imp po_none (by
  rintro σ H Q ⟨μ, env, s, hv, hs, post⟩
  exact Post.now (a := (none : Option Int)) post hs)
theorem so_some {e : Expr} {m : Env → M D} (h : SE X E e m) : SO X E (some e) (inPt m) := PO.imp (po_some h) (by
  rintro σ H Q ⟨μ, env, s, hv, hs, post⟩
  refine ⟨μ, env, s, hv, hs, (Post.bind post).mono fun d s1 μ1 H1 g1 hs1 p1 v hx => ?_⟩
  cases hx with
  | int i => exact ⟨i, rfl, Post.now (a := some i) p1 hs1⟩
  | _ => exact (show False from p1).elim)
def cutD (ds : List D) (lo hi : Option Int) : List D := (ds.drop (HT.sIx ds.length 0 lo)).take (HT.sIx ds.length ds.length hi - HT.sIx ds.length 0 lo)
def slD (x : D) (lo hi : Option Int) : M D := match x with
  | .tup ds => pure (.tup (cutD ds lo hi))
  | .flst ds => allocC (.lst (cutD ds lo hi))
  | .str z => if z.length ≤ 100000 then pure (.str (cutS z lo hi)) else stuck
  | .ptr n => fun s => match s[n]? with
    | some (.lst ds) => allocC (.lst (cutD ds lo hi)) s
    | _ => .stuck
  | _ => stuck
def slM (ma : Env → M D) (ml mh : Env → M (Option Int)) (env : Env) : M D := ma env >>= fun x => ml env >>= fun l => mh env >>= fun h => slD x l h
theorem RepL.take' {K : PySem.W.Frag} {μ : List Addr} {H : Hp} : ∀ {xs : List V} {ds : List D} (n : Nat), RepL K μ H xs ds → RepL K μ H (xs.take n) (ds.take n)
  | _, _, 0, _ => by rw [List.take_zero, List.take_zero]; exact .nil
  | _, _, n + 1, .nil => .nil
  | _, _, n + 1, .cons h t => .cons h (RepL.take' n t)
theorem RepL.drop' {K : PySem.W.Frag} {μ : List Addr} {H : Hp} : ∀ {xs : List V} {ds : List D} (n : Nat), RepL K μ H xs ds → RepL K μ H (xs.drop n) (ds.drop n)
  | _, _, 0, h => h
  | _, _, n + 1, .nil => .nil
  | _, _, n + 1, .cons h t => RepL.drop' n t
theorem cut_rep {K : PySem.W.Frag} {μ : List Addr} {H : Hp} {xs : List V} {ds : List D} (lo hi : Option Int) (h : RepL K μ H xs ds) : RepL K μ H (cutV xs lo hi) (cutD ds lo hi) := by
  unfold cutV cutD
  rw [h.length]
  exact RepL.take' _ (RepL.drop' _ h)
theorem cut_whole {ds : List D} {lo hi : Option Int} (h1 : HT.sIx ds.length 0 lo = 0) (h2 : HT.sIx ds.length ds.length hi = ds.length) : cutD ds lo hi = ds := by
  unfold cutD
  rw [h1, h2]
  exact List.take_length ..
theorem se_slice {e : Expr} {lo hi : Option Expr} {pos p2 : Pos} {ma : Env → M D} {ml mh : Env → M (Option Int)} (ha : SE X E e ma) (hl : SO X E lo ml) (hh : SO X E hi mh) : SE X E (.Subscript e (.Slice lo hi none p2) pos) (slM ma ml mh) :=
  PE.imp (pe_slice (SlR.or sl_list (SlR.or sl_tupA sl_str)) ha hl hh) (by
  rintro σ H Q ⟨μ, env, s, hv, hs, post⟩
  refine ⟨μ, env, s, hv, hs, (Post.bind post).mono fun x s1 μ1 H1 g1 hs1 p1 v hx => ⟨μ1, env, s1, hv.grow g1, hs1, (Post.bind p1).mono fun l s2 μ2 H2 g2 hs2 p2 => ⟨μ2, env, s2, (hv.grow g1).grow g2, hs2, (Post.bind p2).mono fun h s3 μ3 H3 g3 hs3 p3 => ?_⟩⟩⟩
  have hx3 := Rep.grow (g2.trans g3) x v hx
  unfold slD at p3
  cases hx3 with
  | @tup a xs ds ht hl =>
    refine .inr (.inl ⟨a, xs, rfl, ht, fun hw => ?_, fun _ => ?_⟩)
    · rw [hl.length] at hw
      simp only [cut_whole hw.1 hw.2] at p3
      exact post_val hs3 p3 (.tup ht hl)
    · exact post_tup hs3 (cut_rep l h hl) p3
  | @flst a xs ds ht hl => exact .inl ⟨a, xs, rfl, ht.sqL, post_alloc hs3 (cut_rep l h hl) p3⟩
  | str z =>
    simp only [] at p3
    split at p3
    · rename_i hz
      exact .inr (.inr ⟨z, rfl, sz_ok hz, post_val hs3 p3 (.str _)⟩)
    · exact (show False from p3).elim
  | @ptr a n hn =>
    simp only [] at p3
    cases ec : s3[n]? with
    | none => simp only [ec] at p3; exact (show False from p3).elim
    | some c =>
      simp only [ec] at p3
      cases c with
      | lst ds =>
        obtain ⟨xs, h1, hl⟩ := cell_lst hs3 hn ec
        exact .inl ⟨a, xs, rfl, SqL.of h1, post_alloc hs3 (cut_rep l h hl) p3⟩
      | dK kvs => exact (show False from p3).elim
      | dT kvs => exact (show False from p3).elim
      | ins C fs => exact (show False from p3).elim
  | _ => exact (show False from p3).elim)
end
end PL

/-! PL10: dicts with keys that are texts or integers: stores, displays, get, pop, copies. -/
namespace PL
open PySem PySem.Spec PyProof.Rows L2
def putKD (kvs : List (Key × D)) (k : Key) (v : D) : List (Key × D) :=
  if (kvs.any fun kv => decide (kv.1 = k)) = true then kvs.map (fun kv => if kv.1 = k then (kv.1, v) else kv) else kvs ++ [(k, v)]
def dropKD (kvs : List (Key × D)) (k : Key) : List (Key × D) := kvs.filter fun kv => decide (kv.1 ≠ k)
theorem any_rep {K : PySem.W.Frag} {μ : List Addr} {H : Hp} {k : Key} : ∀ {xs : List (Key × V)} {ds : List (Key × D)}, RepK K μ H xs ds → (xs.any fun kv => decide (kv.1 = k)) = ds.any fun kv => decide (kv.1 = k)
  | [], [], _ => rfl
  | [], q :: ds, h => by have := h.1; simp at this
  | p :: xs, [], h => by have := h.1; simp at this
  | p :: xs, q :: ds, ⟨h1, h2⟩ => by
    rw [List.map_cons, List.map_cons] at h1 h2
    cases h2 with
    | cons r t => rw [List.any_cons, List.any_cons, (List.cons.inj h1).1, any_rep ⟨(List.cons.inj h1).2, t⟩]
theorem repl_rep {K : PySem.W.Frag} {μ : List Addr} {H : Hp} {k : Key} {v : V} {d : D} (r0 : Rep K μ H v d) : ∀ {xs : List (Key × V)} {ds : List (Key × D)}, RepK K μ H xs ds → RepK K μ H (xs.map fun kv => if kv.1 = k then (kv.1, v) else kv) (ds.map fun kv => if kv.1 = k then (kv.1, d) else kv)
  | [], [], h => h
  | [], q :: ds, h => by have := h.1; simp at this
  | p :: xs, [], h => by have := h.1; simp at this
  | p :: xs, q :: ds, ⟨h1, h2⟩ => by
    rw [List.map_cons, List.map_cons] at h1 h2
    cases h2 with
    | cons r t =>
      obtain ⟨i1, i2⟩ := repl_rep r0 (k := k) ⟨(List.cons.inj h1).2, t⟩
      have e := (List.cons.inj h1).1
      unfold RepK
      rw [List.map_cons, List.map_cons, List.map_cons, List.map_cons, List.map_cons, List.map_cons]
      by_cases hk : q.1 = k
      · rw [if_pos hk, if_pos (e.trans hk)]
        exact ⟨by rw [i1, e], .cons r0 i2⟩
      · rw [if_neg hk, if_neg (fun z => hk (e.symm.trans z))]
        exact ⟨by rw [i1, e], .cons r i2⟩
theorem RepL.snoc {K : PySem.W.Frag} {μ : List Addr} {H : Hp} {v : V} {d : D} (r : Rep K μ H v d) : ∀ {xs : List V} {ds : List D}, RepL K μ H xs ds → RepL K μ H (xs ++ [v]) (ds ++ [d])
  | _, _, .nil => .cons r .nil
  | _, _, .cons h t => .cons h (RepL.snoc r t)
theorem putK_rep {K : PySem.W.Frag} {μ : List Addr} {H : Hp} {k : Key} {v : V} {d : D} {xs : List (Key × V)} {ds : List (Key × D)} (h : RepK K μ H xs ds) (r : Rep K μ H v d) : RepK K μ H (putK xs k v) (putKD ds k d) := by
  unfold putK putKD
  rw [any_rep h]
  split
  · exact repl_rep r h
  · refine ⟨by rw [List.map_append, List.map_append, h.1]; rfl, ?_⟩
    rw [List.map_append, List.map_append]
    exact RepL.snoc r h.2
theorem dropK_rep {K : PySem.W.Frag} {μ : List Addr} {H : Hp} {k : Key} : ∀ {xs : List (Key × V)} {ds : List (Key × D)}, RepK K μ H xs ds → RepK K μ H (dropK xs k) (dropKD ds k)
  | [], [], h => h
  | [], q :: ds, h => by have := h.1; simp at this
  | p :: xs, [], h => by have := h.1; simp at this
  | p :: xs, q :: ds, ⟨h1, h2⟩ => by
    rw [List.map_cons, List.map_cons] at h1 h2
    cases h2 with
    | cons r t =>
      obtain ⟨i1, i2⟩ := dropK_rep (k := k) ⟨(List.cons.inj h1).2, t⟩
      have e := (List.cons.inj h1).1
      unfold dropK dropKD at *
      by_cases hk : q.1 = k
      · rw [List.filter_cons_of_neg (by have := e.trans hk; simp [this]), List.filter_cons_of_neg (by simp [hk])]
        exact ⟨i1, i2⟩
      · rw [List.filter_cons_of_pos (by have : ¬ p.1 = k := fun z => hk (e.symm.trans z); simp [this]), List.filter_cons_of_pos (by simp [hk])]
        unfold RepK
        rw [List.map_cons, List.map_cons, List.map_cons, List.map_cons]
        exact ⟨by rw [i1, e], .cons r i2⟩
theorem RepK.length {κ : Type} {K : PySem.W.Frag} {μ : List Addr} {H : Hp} {xs : List (κ × V)} {ds : List (κ × D)} (h : RepK K μ H xs ds) : xs.length = ds.length := by
  have e := congrArg List.length h.1
  rw [List.length_map, List.length_map] at e
  exact e
theorem line_of {n : Nat} (h : n < 100000) : n < sizeLine := Nat.lt_of_lt_of_le h (by decide)
/-! ### stores -/
def setXD (o i v : D) : M Unit := match o with
  | .ptr n => fun s => match s[n]? with
    | some (.lst ds) => putL ds i v n s
    | some (.dK kvs) => (match dKey i with
      | some k => if kvs.length < 100000 then .ok () (s.set n (.dK (putKD kvs k v))) else .stuck
      | none => .stuck)
    | _ => .stuck
  | _ => stuck
def rSetX (o i v : V) (H : Hp) (Q : Hp → Prop) : Prop := rSetL o i v H Q ∨ ∃ a H', o = .ref a ∧ DPut H a i v H' ∧ Q H'
section
variable {X : Cx} {E : XK}
theorem set_any (hu : X.A.units + 1 < cLine) : PSet X rSetX := by
  intro pins s σ H o i v ov iv u Q I ro ri rv h
  rcases h with h | ⟨a, H', rfl, g, q⟩
  · exact set_list pins s σ H o i v ov iv u Q I ro ri rv h
  · obtain rfl : ov = Value.ref a := ro
    exact d_setItem hu I g ri rv fun s1 I1 => ⟨H', I1, q⟩
theorem put_cell {K : PySem.W.Frag} {μ : List Addr} {H : Hp} {s : S} {n : Nat} {a : Addr} {xs ys : List (Key × V)} {kvs : List (Key × D)} (hs : SimS K μ H s) (hn : μ[n]? = some a) (h : H a = some (.dK xs)) (l : RepK K μ H ys kvs) :
    Grow μ H μ (upd H a (.dK ys)) ∧ SimS K μ (upd H a (.dK ys)) (s.set n (.dK kvs)) := by
  have hm : Mut (H a) := by rw [h]; trivial
  have g := grow_put (μ := μ) (H := H) (a := a) (o := .dK ys) hm (List.mem_of_getElem? hn)
  exact ⟨g, hs.put hn hm ⟨_, upd_same, l.grow g⟩⟩
theorem setX_ok {K : PySem.W.Frag} {μ : List Addr} {H : Hp} {s : S} {o i v : D} {x y z : V} {q : Unit → S → List Addr → Hp → Prop} (hs : SimS K μ H s) (ro : Rep K μ H x o) (ri : Rep K μ H y i) (rv : Rep K μ H z v) (post : Post K E μ H (setXD o i v s) q) :
    rSetX x y z H (fun H' => ∃ s', Grow μ H μ H' ∧ SimS K μ H' s' ∧ q () s' μ H') := by
  cases ro with
  | @ptr a n hn =>
    cases ec : s[n]? with
    | none => unfold setXD at post; simp only [ec] at post; exact (show False from post).elim
    | some cl =>
      cases cl with
      | lst ds =>
        refine .inl (setL_ok (E := E) (o := .ptr n) (i := i) (v := v) hs (.ptr hn) ri rv ?_)
        unfold setXD at post
        unfold setLD
        simp only [ec] at post ⊢
        exact post
      | dK kvs =>
        unfold setXD at post
        simp only [ec] at post
        cases ek : dKey i with
        | none => simp only [ek] at post; exact (show False from post).elim
        | some k =>
          simp only [ek] at post
          split at post
          · rename_i hz
            obtain ⟨xs, h1, h2⟩ := cell_dK hs hn ec
            have eu := dKey_rep ek ri
            subst eu
            obtain ⟨g, hs'⟩ := put_cell hs hn h1 (putK_rep (k := k) h2 rv)
            exact .inr ⟨a, _, rfl, DPut.k h1 (line_of (by rw [h2.length]; exact hz)), _, g, hs', post _ _ g hs'⟩
          · exact (show False from post).elim
      | dT kvs => unfold setXD at post; simp only [ec] at post; exact (show False from post).elim
      | ins C fs => unfold setXD at post; simp only [ec] at post; exact (show False from post).elim
  | _ => exact (show False from post).elim
theorem sg_subX {a b : Expr} {ma mb : Env → M D} {pos : Pos} (hu : X.A.units + 1 < cLine) (ha : SE X E a ma) (hb : SE X E b mb) (hh : ∀ v, assign (.Subscript a b pos) X.env v = (do
      let ov ← holding [v] (eval a X.env)
      let iv ← holding [v, ov] (eval b X.env)
      standAt pos
      holding [v, ov, iv] (setItem ov iv v)
      release [v, ov, iv] []) := by intro _; rfl) : SG X E (.Subscript a b pos) (gSubM ma mb setXD) := PG.imp (pg_sub ha hb (set_any hu) hh) (by
  rintro v σ H Q ⟨μ, env, s, d, hv, hs, r, post⟩
  refine ⟨μ, env, s, hv, hs, (Post.bind post).mono fun o s1 μ1 H1 g1 hs1 p1 x hx => ?_⟩
  refine ⟨μ1, env, s1, hv.grow g1, hs1, (Post.bind p1).mono fun i s2 μ2 H2 g2 hs2 p2 y hy => ?_⟩
  have z := setX_ok hs2 (Rep.grow g2 o x hx) hy (Rep.grow (g1.trans g2) d v r) (Post.bind p2)
  rcases z with ⟨a, xs, k, j, e1, e2, h1, h2, s3, g3, hs3, q3⟩ | ⟨a, H', e1, h1, s3, g3, hs3, q3⟩
  · exact .inl ⟨a, xs, k, j, e1, e2, h1, h2, Post.now (a := env) q3 hs3 _ (((hv.grow g1).grow g2).grow g3)⟩
  · exact .inr ⟨a, H', e1, h1, Post.now (a := env) q3 hs3 _ (((hv.grow g1).grow g2).grow g3)⟩)
/-! ### displays -/
theorem post_dict {K : PySem.W.Frag} {μ : List Addr} {H : Hp} {s : S} {kvs : List (Key × D)} {xs : List (Key × V)} {Q : VK} (hs : SimS K μ H s) (r : RepK K μ H xs kvs) (h : Post K E μ H (allocC (.dK kvs) s) (okD K Q)) : ∀ p, H p = none → Q (.ref p) (upd H p (.dK xs)) := fun p hp => by
  have hs2 : SimS K (μ ++ [p]) (upd H p (.dK xs)) (s ++ [.dK kvs]) := hs.alloc hp ⟨xs, upd_same, r.grow (grow_cell hp)⟩
  refine h _ _ (grow_cell hp) hs2 (.ref p) (.ptr ?_)
  rw [← hs.len, List.getElem?_append_right (Nat.le_refl _)]
  simp
theorem se_dnew {pos : Pos} : SE X E (.Dict [] [] pos) (fun _ => allocC (.dK [])) := PE.imp pe_dnewK (by
  rintro σ H Q ⟨μ, env, s, hv, hs, post⟩
  exact post_dict (xs := []) hs ⟨rfl, .nil⟩ post)
/-- the pairs of a display -/
def pNil (_ : Env) : M (List (D × D)) := pure []
def pCons (mk mv : Env → M D) (mr : Env → M (List (D × D))) (env : Env) : M (List (D × D)) := mk env >>= fun k => mv env >>= fun v => mr env >>= fun r => pure ((k, v) :: r)
def dKeys : List (D × D) → Option (List (Key × D)) := mapO fun p => (dKey p.1).map fun k => (k, p.2)
def mergeKD (kvs more : List (Key × D)) : List (Key × D) := more.foldl (fun acc kv => putKD acc kv.1 kv.2) kvs
def fillC (n : Nat) (ps : List (D × D)) : M D := fun s => match s[n]?, dKeys ps with
  | some (.dK []), some kvs => if kvs.length ≤ 15 then .ok (.ptr n) (s.set n (.dK (mergeKD [] kvs))) else .stuck
  | _, _ => .stuck
def dispM (mr : Env → M (List (D × D))) (env : Env) : M D := allocC (.dK []) >>= fun p => mr env >>= fun ps => match p with
  | .ptr n => fillC n ps
  | _ => stuck
/-- each pair stands for the other -/
def RepP (K : PySem.W.Frag) (μ : List Addr) (H : Hp) (ps : List (V × V)) (ds : List (D × D)) : Prop := RepL K μ H (ps.map (·.1)) (ds.map (·.1)) ∧ RepL K μ H (ps.map (·.2)) (ds.map (·.2))
def TPof (K : PySem.W.Frag) (E : XK) (m : Env → M (List (D × D))) : L2.St → Hp → (List (V × V) → Hp → Prop) → Prop := fun σ H Q => ∃ μ env s, SimV K μ H σ env ∧ SimS K μ H s ∧ Post K E μ H (m env s) (fun ds _ μ' H' => ∀ ps, RepP K μ' H' ps ds → Q ps H')
structure SPs (X : Cx) (E : XK) (pos : Pos) (keys : List (Option Expr)) (values : List Expr) (m : Env → M (List (D × D))) : Prop where
  run : ∃ trs, PPs X pos keys values trs ∧ ∀ σ H Q, TPof X.K E m σ H Q → tPairs trs σ H Q
theorem sps_nil {pos : Pos} : SPs X E pos [] [] pNil := ⟨[], pps_nil, by
  rintro σ H Q ⟨μ, env, s, hv, hs, post⟩
  exact Post.now (a := ([] : List (D × D))) post hs [] ⟨.nil, .nil⟩⟩
theorem sps_cons {pos : Pos} {k v : Expr} {ks : List (Option Expr)} {vs : List Expr} {mk mv : Env → M D} {mr : Env → M (List (D × D))} (hk : SE X E k mk) (hv : SE X E v mv) (hr : SPs X E pos ks vs mr) : SPs X E pos (some k :: ks) (v :: vs) (pCons mk mv mr) := by
  obtain ⟨trs, h1, h2⟩ := hr
  refine ⟨(TEof X.K E mk, TEof X.K E mv) :: trs, pps_cons hk hv h1, ?_⟩
  rintro σ H Q ⟨μ, env, s, hv, hs, post⟩
  refine ⟨μ, env, s, hv, hs, (Post.bind post).mono fun dk s1 μ1 H1 g1 hs1 p1 x hx => ⟨μ1, env, s1, hv.grow g1, hs1, (Post.bind p1).mono fun dv s2 μ2 H2 g2 hs2 p2 y hy => h2 _ _ _ ⟨μ2, env, s2, (hv.grow g1).grow g2, hs2, (Post.bind p2).mono fun r s3 μ3 H3 g3 hs3 p3 ps hps => ?_⟩⟩⟩
  exact Post.now (a := (dk, dv) :: r) p3 hs3 ((x, y) :: ps) ⟨.cons (Rep.grow (g2.trans g3) _ _ hx) hps.1, .cons (Rep.grow g3 _ _ hy) hps.2⟩
theorem dKeys_rep {K : PySem.W.Frag} {μ : List Addr} {H : Hp} : ∀ {ds : List (D × D)} {ps : List (V × V)} {kvs : List (Key × D)}, dKeys ds = some kvs → RepP K μ H ps ds → ∃ xs : List (Key × V), ps = xs.map (fun kv => (kV kv.1, kv.2)) ∧ RepK K μ H xs kvs
  | [], ps, kvs, e, ⟨h1, h2⟩ => by
    cases e
    cases ps with
    | nil => exact ⟨[], rfl, rfl, .nil⟩
    | cons p ps => rw [List.map_cons] at h1; cases h1
  | d :: ds, ps, kvs, e, ⟨h1, h2⟩ => by
    cases ps with
    | nil => rw [List.map_cons] at h1; cases h1
    | cons p ps =>
      rw [List.map_cons, List.map_cons] at h1 h2
      cases h1 with
      | cons r1 t1 =>
        cases h2 with
        | cons r2 t2 =>
          unfold dKeys mapO at e
          cases q : dKey d.1 with
          | none => rw [q] at e; cases e
          | some k =>
            rw [q] at e
            cases q2 : mapO (fun p : D × D => (dKey p.1).map fun k => (k, p.2)) ds with
            | none => rw [q2] at e; cases e
            | some ms =>
              rw [q2] at e
              cases e
              obtain ⟨xs, e1, e2, e3⟩ := dKeys_rep (ds := ds) q2 ⟨t1, t2⟩
              refine ⟨(k, p.2) :: xs, ?_, ?_, ?_⟩
              · rw [List.map_cons, ← e1, ← dKey_rep q r1]
              · rw [List.map_cons, List.map_cons, e2]
              · rw [List.map_cons, List.map_cons]
                exact .cons r2 e3
theorem merge_rep {K : PySem.W.Frag} {μ : List Addr} {H : Hp} : ∀ {more : List (Key × V)} {md : List (Key × D)} {xs : List (Key × V)} {ds : List (Key × D)}, RepK K μ H more md → RepK K μ H xs ds → RepK K μ H (mergeK xs more) (mergeKD ds md)
  | [], [], xs, ds, _, h => h
  | [], q :: md, _, _, h, _ => by have := h.1; simp at this
  | p :: more, [], _, _, h, _ => by have := h.1; simp at this
  | p :: more, q :: md, xs, ds, ⟨h1, h2⟩, h => by
    rw [List.map_cons, List.map_cons] at h1 h2
    cases h2 with
    | cons r t =>
      show RepK K μ H (mergeK (putK xs p.1 p.2) more) (mergeKD (putKD ds q.1 q.2) md)
      have e := (List.cons.inj h1).1
      rw [e]
      exact merge_rep ⟨(List.cons.inj h1).2, t⟩ (putK_rep h r)
theorem se_disp {pos : Pos} {keys : List (Option Expr)} {values : List Expr} {mr : Env → M (List (D × D))} (h : SPs X E pos keys values mr) (hall : keys.all (·.isSome) = true := by rfl) (hl : keys.length = values.length := by rfl) (h0 : keys ≠ [] := by exact List.cons_ne_nil _ _)
    (h15 : keys.length ≤ 15 := by decide) : SE X E (.Dict keys values pos) (dispM mr) := by
  obtain ⟨trs, h1, h2⟩ := h
  refine PE.imp (pe_disp h1 hall hl h0 h15) ?_
  rintro σ H Q ⟨μ, env, s, hv, hs, post⟩ p hp
  have hs2 : SimS X.K (μ ++ [p]) (upd H p (.dK [])) (s ++ [.dK []]) := hs.alloc hp ⟨[], upd_same, rfl, .nil⟩
  have g := grow_cell (μ := μ) (o := .dK []) hp
  have post1 : Post X.K E (μ ++ [p]) (upd H p (.dK [])) ((mr env >>= fun ps => fillC s.length ps) (s ++ [.dK []])) (okD X.K Q) := Post.later g post
  refine h2 _ _ _ ⟨μ ++ [p], env, _, hv.grow g, hs2, (Post.bind post1).mono fun ds s1 μ1 H1 g1 hs1 p1 ps hps => ?_⟩
  have hat : μ1[s.length]? = some p := g1.at (by
    rw [← hs.len, List.getElem?_append_right (Nat.le_refl _)]
    simp)
  unfold fillC at p1
  cases ec : s1[s.length]? with
  | none => simp only [ec] at p1; exact (show False from p1).elim
  | some cl =>
    simp only [ec] at p1
    split at p1
    · rename_i kvs e1 e2
      cases e1
      split at p1
      · rename_i hz
        obtain ⟨xs, f1, f2⟩ := cell_dK hs1 hat ec
        have fx : xs = [] := by
          have := f2.length
          exact List.length_eq_zero_iff.mp this
        subst fx
        obtain ⟨ys, y1, y2⟩ := dKeys_rep e2 hps
        refine ⟨f1, ys, y1, by rw [y2.length]; exact hz, ?_⟩
        obtain ⟨g2, hs3⟩ := put_cell hs1 hat f1 (merge_rep y2 (xs := []) (ds := []) ⟨rfl, .nil⟩)
        exact p1 _ _ g2 hs3 (.ref p) (.ptr hat)
      · exact (show False from p1).elim
    · exact (show False from p1).elim
end
end PL

/-! PL11: get, pop, dict(d), sorted(d). -/
namespace PL
open PySem PySem.Spec PyProof.Rows L2
def isDk (x : D) : M Unit := match x with
  | .ptr n => fun s => match s[n]? with
    | some (.dK _) => .ok () s
    | _ => .stuck
  | _ => stuck
def withK {α : Type} (x y : D) (F : List (Key × D) → Key → Nat → M α) : M α := match x with
  | .ptr n => fun s => match s[n]?, dKey y with
    | some (.dK kvs), some k => F kvs k n s
    | _, _ => .stuck
  | _ => stuck
def dgetD (x y z : D) : M D := withK x y fun kvs k _ s => .ok ((valD kvs k).getD z) s
/-- d.pop(k): there -/
def dpop1D (x y : D) : M D := withK x y fun kvs k n s => match valD kvs k with
  | some v => .ok v (s.set n (.dK (dropKD kvs k)))
  | none => .stuck
def dpop2D (x y z : D) : M D := withK x y fun kvs k n s => match valD kvs k with
  | some v => .ok v (s.set n (.dK (dropKD kvs k)))
  | none => .ok z s
def dm1 (f : D → D → M D) (mo me : Env → M D) (env : Env) : M D := mo env >>= fun x => isDk x >>= fun _ => me env >>= fun y => f x y
def dm2 (f : D → D → D → M D) (mo me mf : Env → M D) (env : Env) : M D := mo env >>= fun x => isDk x >>= fun _ => me env >>= fun y => mf env >>= fun z => f x y z
section
variable {X : Cx} {E : XK} {o e f : Expr} {mo me mf : Env → M D} {apos cpos : Pos}
theorem isDk_ok {K : PySem.W.Frag} {α : Type} {μ : List Addr} {H : Hp} {s : S} {x : D} {v : V} {g : Unit → M α} {q : α → S → List Addr → Hp → Prop} (hs : SimS K μ H s) (hx : Rep K μ H v x) (post : Post K E μ H ((isDk x >>= g) s) q) : ∃ a, v = .ref a ∧ IsD H a ∧ Post K E μ H (g () s) q := by
  rw [bind_run] at post
  unfold isDk at post
  cases hx with
  | @ptr a n hn =>
    cases ec : s[n]? with
    | none => simp only [ec] at post; exact (show False from post).elim
    | some cl =>
      simp only [ec] at post
      cases cl with
      | dK kvs =>
        obtain ⟨xs, h1, _⟩ := cell_dK hs hn ec
        exact ⟨a, rfl, .inl ⟨xs, .inl h1⟩, post⟩
      | lst ds => exact (show False from post).elim
      | dT kvs => exact (show False from post).elim
      | ins C fs => exact (show False from post).elim
  | _ => exact (show False from post).elim
theorem val_rep {K : PySem.W.Frag} {μ : List Addr} {H : Hp} {xs : List (Key × V)} {kvs : List (Key × D)} (h : RepK K μ H xs kvs) (k : Key) : (∃ v d, valV xs k = some v ∧ valD kvs k = some d ∧ Rep K μ H v d) ∨ (valV xs k = none ∧ valD kvs k = none) := by
  cases ev : valD kvs k with
  | none => exact .inr ⟨lmap_none h (by unfold valD at ev; exact ev), rfl⟩
  | some d =>
    obtain ⟨w, hw, r⟩ := lmap_fst h ev
    exact .inl ⟨w, d, hw, rfl, r⟩
/-- what the dict has, for a key -/
theorem cellK {K : PySem.W.Frag} {μ : List Addr} {H : Hp} {s : S} {x y : D} {v u : V} {α : Type} {F : List (Key × D) → Key → Nat → M α} {q : α → S → List Addr → Hp → Prop} (hs : SimS K μ H s) (hx : Rep K μ H v x) (hy : Rep K μ H u y)
    (post : Post K E μ H (withK x y F s) q) : ∃ a n xs kvs k, v = .ref a ∧ μ[n]? = some a ∧ H a = some (.dK xs) ∧ RepK K μ H xs kvs ∧ u = kV k ∧ s[n]? = some (.dK kvs) ∧ Post K E μ H (F kvs k n s) q := by
  unfold withK at post
  cases hx with
  | @ptr a n hn =>
    simp only [] at post
    cases ec : s[n]? with
    | none => simp only [ec] at post; exact (show False from post).elim
    | some cl =>
      cases ek : dKey y with
      | none => simp only [ec, ek] at post; exact (show False from post).elim
      | some k =>
        simp only [ec, ek] at post
        cases cl with
        | dK kvs =>
          obtain ⟨xs, h1, h2⟩ := cell_dK hs hn ec
          exact ⟨a, n, xs, kvs, k, rfl, hn, h1, h2, dKey_rep ek hy, ec, post⟩
        | lst ds => exact (show False from post).elim
        | dT kvs => exact (show False from post).elim
        | ins C fs => exact (show False from post).elim
  | _ => exact (show False from post).elim
theorem se_get1 (hu : X.A.units + 1 < cLine) (ho : SE X E o mo) (he : SE X E e me) (m : M1 X o "get" apos e cpos) : SE X E (.Call (.Attribute o "get" apos) [e] [] cpos) (dm1 (fun x y => dgetD x y .non) mo me) := PE.imp (pe_dget1 hu ho he m) (by
  rintro σ H Q ⟨μ, env, s, hv, hs, post⟩
  refine ⟨μ, env, s, hv, hs, (Post.bind post).mono fun x s1 μ1 H1 g1 hs1 p1 v hx => ?_⟩
  obtain ⟨a, rfl, hd, p2⟩ := isDk_ok hs1 hx p1
  refine ⟨a, rfl, hd, μ1, env, s1, hv.grow g1, hs1, (Post.bind p2).mono fun y s2 μ2 H2 g2 hs2 p3 u hy => ?_⟩
  unfold dgetD at p3
  obtain ⟨b, n, xs, kvs, k, e1, hn, h1, h2, rfl, ec, p4⟩ := cellK hs2 (Rep.grow g2 _ _ hx) hy p3
  cases e1
  refine ⟨valV xs k, DGet.k h1, ?_⟩
  rcases val_rep h2 k with ⟨w, d, e1, e2, r⟩ | ⟨e1, e2⟩
  · rw [e1]
    rw [e2] at p4
    exact post_val hs2 p4 r
  · rw [e1]
    rw [e2] at p4
    exact post_val hs2 p4 .non)
theorem se_get2 (hu : X.A.units + 1 < cLine) (ho : SE X E o mo) (he : SE X E e me) (hf : SE X E f mf) (m : M2 X o "get" apos e f cpos) : SE X E (.Call (.Attribute o "get" apos) [e, f] [] cpos) (dm2 dgetD mo me mf) := PE.imp (pe_dget2 hu ho he hf m) (by
  rintro σ H Q ⟨μ, env, s, hv, hs, post⟩
  refine ⟨μ, env, s, hv, hs, (Post.bind post).mono fun x s1 μ1 H1 g1 hs1 p1 v hx => ?_⟩
  obtain ⟨a, rfl, hd, p2⟩ := isDk_ok hs1 hx p1
  refine ⟨a, rfl, hd, μ1, env, s1, hv.grow g1, hs1, (Post.bind p2).mono fun y s2 μ2 H2 g2 hs2 p3 u hy => ⟨μ2, env, s2, (hv.grow g1).grow g2, hs2, (Post.bind p3).mono fun z s3 μ3 H3 g3 hs3 p4 w hz => ?_⟩⟩
  unfold dgetD at p4
  obtain ⟨b, n, xs, kvs, k, e1, hn, h1, h2, rfl, ec, p5⟩ := cellK hs3 (Rep.grow (g2.trans g3) _ _ hx) (Rep.grow g3 _ _ hy) p4
  cases e1
  refine ⟨valV xs k, DGet.k h1, ?_⟩
  rcases val_rep h2 k with ⟨w, d, e1, e2, r⟩ | ⟨e1, e2⟩
  · rw [e1]
    rw [e2] at p5
    exact post_val hs3 p5 r
  · rw [e1]
    rw [e2] at p5
    exact post_val hs3 p5 hz)
theorem se_pop1 (ho : SE X E o mo) (he : SE X E e me) (m : M1 X o "pop" apos e cpos) : SE X E (.Call (.Attribute o "pop" apos) [e] [] cpos) (dm1 dpop1D mo me) := PE.imp (pe_dpop1 ho he m) (by
  rintro σ H Q ⟨μ, env, s, hv, hs, post⟩
  refine ⟨μ, env, s, hv, hs, (Post.bind post).mono fun x s1 μ1 H1 g1 hs1 p1 v hx => ?_⟩
  obtain ⟨a, rfl, hd, p2⟩ := isDk_ok hs1 hx p1
  refine ⟨a, rfl, hd, μ1, env, s1, hv.grow g1, hs1, (Post.bind p2).mono fun y s2 μ2 H2 g2 hs2 p3 u hy => ?_⟩
  unfold dpop1D at p3
  obtain ⟨b, n, xs, kvs, k, e1, hn, h1, h2, rfl, ec, p4⟩ := cellK hs2 (Rep.grow g2 _ _ hx) hy p3
  cases e1
  rcases val_rep h2 k with ⟨w, d, e1, e2, r⟩ | ⟨e1, e2⟩
  · refine ⟨xs, k, w, h1, rfl, e1, ?_⟩
    simp only [e2] at p4
    obtain ⟨g3, hs3⟩ := put_cell hs2 hn h1 (dropK_rep (k := k) h2)
    exact p4 _ _ g3 hs3 _ (Rep.grow g3 _ _ r)
  · simp only [e2] at p4
    exact (show False from p4).elim)
theorem se_pop2 (ho : SE X E o mo) (he : SE X E e me) (hf : SE X E f mf) (m : M2 X o "pop" apos e f cpos) : SE X E (.Call (.Attribute o "pop" apos) [e, f] [] cpos) (dm2 dpop2D mo me mf) := PE.imp (pe_dpop2 ho he hf m) (by
  rintro σ H Q ⟨μ, env, s, hv, hs, post⟩
  refine ⟨μ, env, s, hv, hs, (Post.bind post).mono fun x s1 μ1 H1 g1 hs1 p1 v hx => ?_⟩
  obtain ⟨a, rfl, hd, p2⟩ := isDk_ok hs1 hx p1
  refine ⟨a, rfl, hd, μ1, env, s1, hv.grow g1, hs1, (Post.bind p2).mono fun y s2 μ2 H2 g2 hs2 p3 u hy => ⟨μ2, env, s2, (hv.grow g1).grow g2, hs2, (Post.bind p3).mono fun z s3 μ3 H3 g3 hs3 p4 w hz => ?_⟩⟩
  unfold dpop2D at p4
  obtain ⟨b, n, xs, kvs, k, e1, hn, h1, h2, rfl, ec, p5⟩ := cellK hs3 (Rep.grow (g2.trans g3) _ _ hx) (Rep.grow g3 _ _ hy) p4
  cases e1
  refine ⟨xs, k, h1, rfl, fun v hv1 => ?_, fun hv1 => ?_⟩
  · rcases val_rep h2 k with ⟨w2, d, e1, e2, r⟩ | ⟨e1, e2⟩
    · rw [e1] at hv1
      cases hv1
      simp only [e2] at p5
      obtain ⟨g4, hs4⟩ := put_cell hs3 hn h1 (dropK_rep (k := k) h2)
      exact p5 _ _ g4 hs4 _ (Rep.grow g4 _ _ r)
    · rw [e1] at hv1
      cases hv1
  · rcases val_rep h2 k with ⟨w2, d, e1, e2, r⟩ | ⟨e1, e2⟩
    · rw [e1] at hv1
      cases hv1
    · simp only [e2] at p5
      exact post_val hs3 p5 hz)
end
/-! ### dict(d), a copy -/
def dictD (x : D) : M D := match x with
  | .ptr n => fun s => match s[n]? with
    | some (.dK kvs) => allocC (.dK kvs) s
    | _ => .stuck
  | _ => stuck
/-! ### sorted(d) of texts -/
def ltS (a b : Str) : Bool := decide (a.cps.toList < b.cps.toList)
def insS (p : Str) : List Str → List Str
  | [] => [p]
  | q :: r => if ltS q p = true then q :: insS p r else p :: q :: r
def sortS : List Str → List Str
  | [] => []
  | p :: r => insS p (sortS r)
def keyStr : Key × D → Option Str
  | (.inr x, _) => some x
  | _ => none
def kStrs : List (Key × D) → Option (List Str) := mapO keyStr
def sortedD (x : D) : M D := match x with
  | .ptr n => fun s => match s[n]? with
    | some (.dK kvs) => (match kStrs kvs with
      | some ks => if ks.length < 64 then allocC (.lst ((sortS ks).map D.str)) s else .stuck
      | none => .stuck)
    | _ => .stuck
  | _ => stuck
theorem insS_perm (p : Str) : ∀ l : List Str, (insS p l).Perm (p :: l)
  | [] => List.Perm.refl _
  | q :: r => by
    unfold insS
    split
    · exact ((insS_perm p r).cons q).trans (List.Perm.swap _ _ _)
    · exact List.Perm.refl _
theorem sortS_perm : ∀ l : List Str, (sortS l).Perm l
  | [] => List.Perm.refl _
  | p :: r => (insS_perm p _).trans ((sortS_perm r).cons p)
end PL

/-! PL12: instances of own classes: attributes, methods, making. -/
namespace PL
open PySem PySem.Spec PyProof.Rows L2
def putFD (f : Str) (v : D) : List (Str × D) → List (Str × D)
  | [] => [(f, v)]
  | (g, x) :: r => if g = f then (g, v) :: r else (g, x) :: putFD f v r
theorem cell_ins {K : PySem.W.Frag} {μ : List Addr} {H : Hp} {s : S} {n : Nat} {a : Addr} {C : Str} {fs : List (Str × D)} (hs : SimS K μ H s) (ha : μ[n]? = some a) (e : s[n]? = some (.ins C fs)) : ∃ c dx xs, ClsAt K C c ∧ H a = some (.ins c dx xs) ∧ RepK K μ H xs fs := by
  obtain ⟨b, hb, hc⟩ := hs.cell n _ e
  rw [ha] at hb
  cases hb
  exact hc
theorem look_rep {K : PySem.W.Frag} {μ : List Addr} {H : Hp} {f : Str} : ∀ {xs : List (Str × V)} {ds : List (Str × D)}, RepK K μ H xs ds → (xs.lookup f = none ∧ ds.lookup f = none) ∨ ∃ v d, xs.lookup f = some v ∧ ds.lookup f = some d ∧ Rep K μ H v d
  | [], [], _ => .inl ⟨rfl, rfl⟩
  | [], q :: ds, h => by have := h.1; simp at this
  | p :: xs, [], h => by have := h.1; simp at this
  | (g, v) :: xs, (g', d) :: ds, ⟨h1, h2⟩ => by
    rw [List.map_cons, List.map_cons] at h1 h2
    obtain rfl : g = g' := (List.cons.inj h1).1
    cases h2 with
    | cons r t =>
      by_cases hk : f = g
      · have hb : (f == g) = true := beq_iff_eq.mpr hk
        exact .inr ⟨v, d, by simp only [List.lookup, hb], by simp only [List.lookup, hb], r⟩
      · have hb : (f == g) = false := beq_eq_false_iff_ne.mpr hk
        rcases look_rep (f := f) ⟨(List.cons.inj h1).2, t⟩ with ⟨e1, e2⟩ | ⟨v', d', e1, e2, r'⟩
        · exact .inl ⟨by simp only [List.lookup, hb]; exact e1, by simp only [List.lookup, hb]; exact e2⟩
        · exact .inr ⟨v', d', by simp only [List.lookup, hb]; exact e1, by simp only [List.lookup, hb]; exact e2, r'⟩
theorem putF_rep {K : PySem.W.Frag} {μ : List Addr} {H : Hp} {f : Str} {v : V} {d : D} (r0 : Rep K μ H v d) : ∀ {xs : List (Str × V)} {ds : List (Str × D)}, RepK K μ H xs ds → RepK K μ H (putF f v xs) (putFD f d ds)
  | [], [], _ => ⟨rfl, .cons r0 .nil⟩
  | [], q :: ds, h => by have := h.1; simp at this
  | p :: xs, [], h => by have := h.1; simp at this
  | (g, v') :: xs, (g', d') :: ds, ⟨h1, h2⟩ => by
    rw [List.map_cons, List.map_cons] at h1 h2
    obtain rfl : g = g' := (List.cons.inj h1).1
    cases h2 with
    | cons r t =>
      unfold putF putFD
      by_cases hk : g = f
      · rw [if_pos hk, if_pos hk]
        refine ⟨?_, ?_⟩
        · rw [List.map_cons, List.map_cons, (List.cons.inj h1).2]
        · rw [List.map_cons, List.map_cons]
          exact .cons r0 t
      · rw [if_neg hk, if_neg hk]
        obtain ⟨i1, i2⟩ := putF_rep r0 (f := f) ⟨(List.cons.inj h1).2, t⟩
        refine ⟨?_, ?_⟩
        · rw [List.map_cons, List.map_cons, i1]
        · rw [List.map_cons, List.map_cons]
          exact .cons r i2
/-- what is done with an instance of the class at C -/
def withI {α : Type} (C : Str) (x : D) (F : List (Str × D) → Nat → M α) : M α := match x with
  | .ptr n => fun s => match s[n]? with
    | some (.ins C' fs) => if C' = C then F fs n s else .stuck
    | _ => .stuck
  | _ => stuck
def fldD (C : Str) (f : Str) (x : D) : M D := withI C x fun fs _ s => match fs.lookup f with
  | some d => .ok d s
  | none => .stuck
def setF (C : Str) (f : Str) (v x : D) : M Unit := withI C x fun fs n s => if fs.length < 1000 then .ok () (s.set n (.ins C (putFD f v fs))) else .stuck
/-- o.f = v -/
def fldS (C : Str) (f : Str) (mv mo : Env → M D) (env : Env) : M Out := mv env >>= fun v => mo env >>= fun x => setF C f v x >>= fun _ => pure (.nx env)
def noF (C : Str) (m : Str) (x : D) : M Unit := withI C x fun fs _ s => if fs.lookup m = none then .ok () s else .stuck
def methI (C : Str) (m : Str) (n : Nat) (F : List D → M D) (mo : Env → M D) (ma : Env → M (List D)) (env : Env) : M D := mo env >>= fun x => noF C m x >>= fun _ => ma env >>= fun ds => lenM n F (x :: ds)
def makeI (C : Str) (n : Nat) (F : List D → M D) (ma : Env → M (List D)) (env : Env) : M D := ma env >>= fun ds => allocC (.ins C []) >>= fun x => lenM n F (x :: ds) >>= fun r => match r with
  | .non => pure x
  | _ => stuck
instance (o : Option D) : Decidable (o = none) := match o with
  | none => isTrue rfl
  | some _ => isFalse fun h => by cases h
section
variable {X : Cx} {E : XK}
theorem withI_ok {K : PySem.W.Frag} {α : Type} {C : Str} {cA : Addr} (hC : ClsAt K C cA) {μ : List Addr} {H : Hp} {s : S} {x : D} {v : V} {F : List (Str × D) → Nat → M α} {q : α → S → List Addr → Hp → Prop} (hs : SimS K μ H s) (hx : Rep K μ H v x) (post : Post K E μ H (withI C x F s) q) :
    ∃ a n dx xs fs, x = .ptr n ∧ v = .ref a ∧ μ[n]? = some a ∧ H a = some (.ins cA dx xs) ∧ RepK K μ H xs fs ∧ s[n]? = some (.ins C fs) ∧ Post K E μ H (F fs n s) q := by
  unfold withI at post
  cases hx with
  | @ptr a n hn =>
    simp only [] at post
    cases ec : s[n]? with
    | none => simp only [ec] at post; exact (show False from post).elim
    | some cl =>
      simp only [ec] at post
      cases cl with
      | ins C' fs =>
        simp only [] at post
        split at post
        · rename_i e
          subst e
          obtain ⟨c, dx, xs, hc, h1, h2⟩ := cell_ins hs hn ec
          rw [hc.inj hC] at h1
          exact ⟨a, n, dx, xs, fs, rfl, rfl, hn, h1, h2, ec, post⟩
        · exact (show False from post).elim
      | lst ds => exact (show False from post).elim
      | dK kvs => exact (show False from post).elim
      | dT kvs => exact (show False from post).elim
  | _ => exact (show False from post).elim
theorem se_fld {C : Str} {cA : Addr} (hC : ClsAt X.K C cA) {f : Str} {e : Expr} {me : Env → M D} {pos : Pos} (c : Cls X.K cA) (na : NoAttr X.K cA f) (he : SE X E e me) (hb : attributeBase e f X.env (eval e X.env) = eval e X.env := by rfl) : SE X E (.Attribute e f pos) (unM (fldD C f) me) := PE.imp (pe_fld he hb) (by
  rintro σ H Q ⟨μ, env, s, hv, hs, post⟩
  refine ⟨μ, env, s, hv, hs, (Post.bind post).mono fun x s1 μ1 H1 g1 hs1 p1 v hx => ?_⟩
  obtain ⟨a, n, dx, xs, fs, rfl, rfl, hn, h1, h2, ec, p2⟩ := withI_ok hC hs1 hx p1
  rcases look_rep (f := f) h2 with ⟨e1, e2⟩ | ⟨w, d, e1, e2, r⟩
  · simp only [e2] at p2
    exact (show False from p2).elim
  · simp only [e2] at p2
    exact ⟨a, cA, dx, xs, w, rfl, h1, c, na, e1, post_val hs1 p2 r⟩)
theorem ss_fld {C : Str} {cA : Addr} (hC : ClsAt X.K C cA) {f : Str} {o value : Expr} {mo mv : Env → M D} {pos pos' : Pos} (c : Cls X.K cA) (na : NoAttr X.K cA f) (ho : SE X E o mo) (hv : SE X E value mv) (hsw : swapsWith value (some (.Attribute o f pos')) pos.line X.env = pure false := by rfl) :
    SS X E (.Assign [.Attribute o f pos'] value pos) (fldS C f mv mo) := PS.imp (ps_fld ho hv hsw) (by
  rintro Dd σ H ⟨μ, env, s, hv, hs, post⟩
  refine ⟨μ, env, s, hv, hs, (Post.bind post).mono fun v s1 μ1 H1 g1 hs1 p1 y hy => ⟨μ1, env, s1, hv.grow g1, hs1, (Post.bind p1).mono fun x s2 μ2 H2 g2 hs2 p2 u hx => ?_⟩⟩
  obtain ⟨a, n, dx, xs, fs, rfl, rfl, hn, h1, h2, ec, p3⟩ := withI_ok hC hs2 hx (Post.bind p2)
  by_cases hz : fs.length < 1000
  · simp only [hz, if_true] at p3
    have hm : Mut (H2 a) := by rw [h1]; trivial
    have r := putF_rep (f := f) (Rep.grow g2 _ _ hy) h2
    have g := grow_put (μ := μ2) (H := H2) (a := a) (o := .ins cA dx (putF f y xs)) hm (List.mem_of_getElem? hn)
    have hs3 : SimS X.K μ2 (upd H2 a (.ins cA dx (putF f y xs))) (s2.set n (.ins C (putFD f v fs))) := hs2.put hn hm ⟨cA, dx, _, hC, upd_same, r.grow g⟩
    refine ⟨a, cA, dx, xs, rfl, h1, c, na, by rw [h2.length]; exact hz, ?_⟩
    have p4 := p3 _ _ g hs3
    exact Post.now (a := Out.nx env) p4 hs3 _ (((hv.grow g1).grow g2).grow g)
  · simp only [hz, if_false] at p3
    exact (show False from p3).elim)
theorem te_meth2 {K : PySem.W.Frag} {C : Str} {cA : Addr} (hC : ClsAt K C cA) {m : Str} {n : Nat} {F : List D → M D} {mo : Env → M D} {ma : Env → M (List D)} : ∀ σ H Q, TEof K E (methI C m n F mo ma) σ H Q → tMeth cA m (spM K n F) [] E (TEof K E mo) (TAof K E ma) σ H Q := by
  rintro σ H Q ⟨μ, env, s, hv, hs, post⟩
  refine ⟨μ, env, s, hv, hs, (Post.bind post).mono fun x s1 μ1 H1 g1 hs1 p1 v hx => ?_⟩
  obtain ⟨a, j, dx, xs, fs, rfl, rfl, hn, h1, h2, ec, p2⟩ := withI_ok hC hs1 hx (Post.bind p1)
  by_cases hz : fs.lookup m = none
  · have hx2 : xs.lookup m = none := by
      rcases look_rep (f := m) h2 with ⟨e1, _⟩ | ⟨_, _, _, e2, _⟩
      · exact e1
      · rw [hz] at e2
        cases e2
    simp only [hz, if_true] at p2
    have p3 := Post.now (a := ()) p2 hs1
    refine ⟨a, dx, xs, rfl, h1, hx2, μ1, env, s1, hv.grow g1, hs1, (Post.bind p3).mono fun ds s2 μ2 H2 g2 hs2 p4 vs hl => ?_⟩
    unfold lenM at p4
    split at p4
    · rename_i hn2
      rw [List.append_nil]
      exact ⟨μ2, s2, _, hs2, .cons (Rep.grow g2 _ _ hx) hl, hn2, p4⟩
    · exact (show False from p4).elim
  · simp only [hz, if_false] at p2
    exact (show False from p2).elim
theorem se_methI {CX : CXT} {k n : Nat} {C : Str} {cA fa : Addr} (hC : ClsAt X.K C cA) {fd : FuncData} {ps : List Str} {F : List D → M D} {m : Str} {o e : Expr} {es : List Expr} {mo : Env → M D} {ma : Env → M (List D)} {apos pos : Pos} {pl : Sem Bool} (ho : SE X E o mo) (c : Cls X.K cA) (hm : Meth X.K cA m fa) (G : FnOk X.prog X.w X.K X.mg X.base CX k fa fd ps (spM X.K n F)) (hr : Room k X.A) (hb : Binds X.K fd ps []) (hx : Passes CX X E) (ha : SA X E (e :: es) ma)
    (hst : starEach (e :: es) X.env = (false, eval e X.env) :: starEach es X.env := by rfl) (hpl : (backTo pos (starEach es X.env)).any (·.1) = false := by rfl)
    (ht : eval (.Call (.Attribute o m apos) (e :: es) [] pos) X.env = (do
      let ov ← eval o X.env
      standAt apos.atName
      let (f, first) ← holding [ov] (getMethod ov m pl)
      callWith pos f first (backTo pos (starEach (e :: es) X.env)) (backToKw pos (keywordEach [] X.env))) := by rfl) : SE X E (.Call (.Attribute o m apos) (e :: es) [] pos) (methI C m n F mo ma) := PE.imp (pe_meth ho c hm G hr hb .nil hx ha hst hpl ht) (te_meth2 hC)
theorem se_methI0 {CX : CXT} {k n : Nat} {C : Str} {cA fa : Addr} (hC : ClsAt X.K C cA) {fd : FuncData} {ps : List Str} {F : List D → M D} {m : Str} {o : Expr} {mo : Env → M D} {apos pos : Pos} {pl : Sem Bool} (ho : SE X E o mo) (c : Cls X.K cA) (hm : Meth X.K cA m fa) (G : FnOk X.prog X.w X.K X.mg X.base CX k fa fd ps (spM X.K n F)) (hr : Room k X.A) (hb : Binds X.K fd ps []) (hx : Passes CX X E)
    (ht : eval (.Call (.Attribute o m apos) [] [] pos) X.env = (do
      let ov ← eval o X.env
      standAt apos.atName
      let (f, first) ← holding [ov] (getMethod ov m pl)
      callWith pos f first (backTo pos (starEach [] X.env)) (backToKw pos (keywordEach [] X.env))) := by rfl) : SE X E (.Call (.Attribute o m apos) [] [] pos) (methI C m n F mo nilA) := PE.imp (pe_meth0 ho c hm G hr hb .nil hx ht) (by
  intro σ H Q h
  obtain ⟨μ, env, s, hv, hs, q⟩ := te_meth2 hC σ H Q h
  refine ⟨μ, env, s, hv, hs, q.mono fun x s1 μ1 H1 g1 hs1 p v hx => ?_⟩
  obtain ⟨a, dx, xs, e1, h1, h2, μ2, env2, s2, hv2, hs2, p2⟩ := p v hx
  exact ⟨a, dx, xs, e1, h1, h2, Post.now (a := ([] : List D)) p2 hs2 [] .nil⟩)
theorem te_make {K : PySem.W.Frag} {C : Str} {cA : Addr} (hC : ClsAt K C cA) {n : Nat} {F : List D → M D} {ma : Env → M (List D)} : ∀ σ H Q, TEof K E (makeI C n F ma) σ H Q → tMake cA (spM K n F) [] E (TAof K E ma) σ H Q := by
  rintro σ H Q ⟨μ, env, s, hv, hs, post⟩
  refine ⟨μ, env, s, hv, hs, (Post.bind post).mono fun ds s1 μ1 H1 g1 hs1 p1 vs hl x dx hx hdx hne => ?_⟩
  have g2 : Grow μ1 H1 μ1 (upd H1 dx (.own x)) := grow_new hdx
  have hs2 : SimS K μ1 (upd H1 dx (.own x)) s1 := hs1.lay hdx
  have hx2 : upd H1 dx (.own x) x = none := by rw [upd_ne (Ne.symm hne)]; exact hx
  have g3 : Grow μ1 (upd H1 dx (.own x)) (μ1 ++ [x]) (upd (upd H1 dx (.own x)) x (.ins cA dx [])) := grow_cell hx2
  have hs3 : SimS K (μ1 ++ [x]) (upd (upd H1 dx (.own x)) x (.ins cA dx [])) (s1 ++ [.ins C []]) := hs2.alloc hx2 ⟨cA, dx, [], hC, upd_same, rfl, .nil⟩
  have hat : (μ1 ++ [x])[s1.length]? = some x := by
    rw [← hs1.len, List.getElem?_append_right (Nat.le_refl _)]
    simp
  have p2 : Post K E (μ1 ++ [x]) (upd (upd H1 dx (.own x)) x (.ins cA dx [])) ((lenM n F (.ptr s1.length :: ds) >>= fun r => match r with
      | .non => pure (.ptr s1.length)
      | _ => stuck) (s1 ++ [.ins C []])) (okD K Q) := Post.later (g2.trans g3) p1
  have p3 := Post.bind p2
  unfold lenM at p3
  split at p3
  · rename_i hn
    rw [List.append_nil]
    refine ⟨_, _, _, hs3, .cons (.ptr hat) (RepL.grow (g2.trans g3) _ _ hl), hn, p3.mono fun r s4 μ4 H4 g4 hs4 p4 v hv4 => ?_⟩
    cases hv4 with
    | non => exact ⟨rfl, Post.now (a := D.ptr s1.length) p4 hs4 _ (.ptr (g4.at hat))⟩
    | _ => exact (show False from p4).elim
  · exact (show False from p3).elim
theorem se_make {CX : CXT} {k n : Nat} {C : Str} {cA fa : Addr} (hC : ClsAt X.K C cA) {fd : FuncData} {ps : List Str} {F : List D → M D} {x : Str} {e : Expr} {es : List Expr} {ma : Env → M (List D)} {p pos : Pos} (Mm : Mk X.K cA fa) (G : FnOk X.prog X.w X.K X.mg X.base CX k fa fd ps (spM X.K n F)) (hr : Room (k + 1) X.A) (hg : Gl X x) (hm : X.mg x = some (.ref cA)) (hb : Binds X.K fd ps []) (hx : Passes CX X E)
    (ha : SA X E (e :: es) ma) (hdb : (x == ("__debug__" : Str)) = false := by decide) (he : starEach (e :: es) X.env = (false, eval e X.env) :: starEach es X.env := by rfl) (hpl : (backTo pos (starEach es X.env)).any (·.1) = false := by rfl) :
    SE X E (.Call (.Name x p) (e :: es) [] pos) (makeI C n F ma) := PE.imp (pe_make Mm G hr hg hm hb .nil hx ha hdb he hpl) (te_make hC)
end
end PL

namespace PL
open PySem PySem.Spec PyProof.Rows L2
theorem units66 {k : Nat} {A : Around} (r : Room k A) : A.units + 65 < cLine := by have := r.un; omega
end PL

/-! PL14: x[::-1] of tuples and lists. -/
namespace PL
open PySem PySem.Spec PyProof.Rows L2 HT
section
variable {prog : Program} {w : World} {A : Around} {E : Value → Shared → Prop} {s : Shared}
theorem adjust_rev (n : Nat) : Builtin.Slice.sliceAdjust none none (-1) (n : Int) = ((n : Int) - 1, -1) := rfl
theorem places_rev (n : Nat) : Builtin.Slice.slicePlaces ((n : Int) - 1) (-1) (-1) = n := by
  unfold Builtin.Slice.slicePlaces
  rw [if_neg (by decide)]
  have h1 : -(-1 : Int) = 1 := rfl
  rw [h1, Int.ediv_one]
  split <;> omega
theorem sliceApplied_rev {sl : Addr} {t : Tok} {n : Nat} {Q : Int × Int × Nat → Shared → Prop} (hs : s.heap.IsSliceOf sl .none .none (.int (-1) t)) (h : Q ((n : Int) - 1, -1, n) s) : wpAny (model prog w) A (Builtin.Slice.sliceApplied (.ref sl) (pure (n : Int))) Q E s := by
  obtain ⟨os, hos, hcs, hds⟩ := id hs
  unfold Builtin.Slice.sliceApplied Builtin.Slice.sliceFields
  refine wpAny_bind (wpAny_bind (wpAny_field hos hds (x := .none) rfl (wpAny_bind (wpAny_field hos hds (x := .none) rfl (wpAny_bind (wpAny_field hos hds (x := .int (-1) t) rfl (wpAny_pure ?_)))))))
  refine wpAny_bind (slicePart_int ?_)
  show wpAny _ _ (if ((-1 : Int) == 0) = true then _ else _) _ _ s
  rw [if_neg (by decide)]
  refine wpAny_bind (slicePart_none (wpAny_bind (slicePart_none (wpAny_bind (wpAny_pure ?_)))))
  show wpAny _ _ (match Builtin.Slice.sliceAdjust none none (-1) (n : Int) with | (lo, hi) => pure (lo, (-1 : Int), Builtin.Slice.slicePlaces lo hi (-1))) _ _ s
  rw [adjust_rev n]
  show wpAny _ _ (pure ((n : Int) - 1, (-1 : Int), Builtin.Slice.slicePlaces ((n : Int) - 1) (-1) (-1))) _ _ s
  rw [places_rev]
  exact wpAny_pure h
theorem range_rev {α : Type} : ∀ l : List α, (List.range l.length).filterMap (fun m => l[l.length - 1 - m]?) = l.reverse := fun l => by
  have e2 : (List.range l.length).map (fun m => l[l.length - 1 - m]?) = l.reverse.map some := by
    refine List.ext_getElem? fun j => ?_
    rw [List.getElem?_map, List.getElem?_map]
    by_cases hj : j < l.length
    · rw [List.getElem?_range hj, List.getElem?_reverse hj]
      show some (l[l.length - 1 - j]?) = (l[l.length - 1 - j]?).map some
      rw [List.getElem?_eq_getElem (by omega)]
      rfl
    · rw [List.getElem?_eq_none (by rw [List.length_range]; omega), List.getElem?_eq_none (by rw [List.length_reverse]; omega)]
      rfl
  have e3 : (List.range l.length).filterMap (fun m => l[l.length - 1 - m]?) = ((List.range l.length).map (fun m => l[l.length - 1 - m]?)).filterMap id := by
    rw [List.filterMap_map]
    rfl
  rw [e3, e2, List.filterMap_map]
  show (l.reverse.filterMap fun a => some a) = _
  rw [List.filterMap_some]
theorem pick_rev (xs : Array Value) : ((List.range xs.size).filterMap fun (m : Nat) => xs[(((xs.size : Int) - 1) + (m : Int) * (-1)).toNat]?).toArray = xs.toList.reverse.toArray := by
  obtain ⟨l⟩ := xs
  congr 1
  show ((List.range l.length).filterMap fun (m : Nat) => (⟨l⟩ : Array Value)[(((l.length : Int) - 1) + (m : Int) * (-1)).toNat]?) = l.reverse
  rw [← range_rev l]
  have : (fun (m : Nat) => (⟨l⟩ : Array Value)[(((l.length : Int) - 1) + (m : Int) * (-1)).toNat]?) = fun m => l[l.length - 1 - m]? := by
    funext m
    rw [show (((l.length : Int) - 1) + (m : Int) * (-1)).toNat = l.length - 1 - m by omega]
    simp
  rw [this]
theorem getItem_tuple_rev {t sl : Addr} {tk : Tok} {items : Array Value} {Q : Value → Shared → Prop} (ht : IsTup s.heap t items) (hs : s.heap.IsSliceOf sl .none .none (.int (-1) tk))
    (h : Q (.ref s.heap.objs.size) { s with heap := s.heap.push { cls := .type "tuple", data := .seq items.toList.reverse.toArray } })
    (hsz : items.size ≤ sizeLine) : wpAny (model prog w) A (getItem (.ref t) (.ref sl)) Q E s := by
  have htake : sizeOk (.seq items.toList.reverse.toArray) := by
    show items.toList.reverse.toArray.size ≤ sizeLine
    rw [List.size_toArray, List.length_reverse, Array.length_toList]
    exact hsz
  obtain ⟨os, hos, hcs, hds⟩ := id hs
  have hTs : s.TypeIs (.ref sl) "slice" := ⟨os, hos, hcs⟩
  unfold getItem
  try with_reducible refine wpAny_holding ?_
  first | refine wpAny_bind (wpAny_pure ?_) | skip
  refine wpAny_bind (wpAny_sequenceKey ht.typeIs (by decide) ?_)
  refine wpAny_bind (wpAny_callSpecial?_slot (name := Str.ofString "__getitem__") ht.typeIs PyProof.Rows.slot_tuple_getitem
    (wpAny_call_entry PyProof.Rows.slot_tuple_getitem ht.typeIs entry_tuple_getitem ?_ (args_tuple_getitem _ _)))
  show wpAny _ _ (Builtin.Tuple.tupleItemsOf (.ref t) >>= _) _ _ s
  refine wpAny_bind (tupleItemsOf_ ht ?_)
  refine wpAny_bind (wpAny_typeOf hTs ?_)
  rw [if_pos (by decide)]
  refine wpAny_bind (sliceApplied_rev hs ?_)
  have hno : ¬ ((((items.size : Int) - 1) == 0 && (-1 : Int) == 1 && items.size == items.size) = true) := by
    intro q
    rw [Bool.and_eq_true, Bool.and_eq_true] at q
    exact absurd (eq_of_beq q.1.2) (by decide)
  show wpAny _ _ (if (((items.size : Int) - 1) == 0 && (-1 : Int) == 1 && items.size == items.size) = true then _ else _) _ _ s
  rw [if_neg hno, pick_rev]
  first
    | exact wpAny_bind (m := Builtin.Tuple.tupleExact _) (wpAny_newObj_type (wpAny_pure ⟨_, rfl, wpAny_pure h⟩) htake)
    | exact wpAny_bind (m := Builtin.Tuple.tupleExact _) (wpAny_newObj_type (wpAny_bind (wpAny_pure (wpAny_pure ⟨_, rfl, wpAny_pure h⟩))) htake)
    | exact wpAny_bind (wpAny_bind (m := Builtin.Tuple.tupleExact _) (wpAny_newObj_type (wpAny_pure (wpAny_pure ⟨_, rfl, wpAny_pure h⟩)) htake))
    | exact wpAny_bind (wpAny_bind (m := Builtin.Tuple.tupleExact _) (wpAny_newObj_type (wpAny_pure ⟨_, rfl, wpAny_pure h⟩) htake))
end
section
variable {X : Cx} {E : XK}
theorem vals_rev : ∀ {xs : List V} {us : List Value}, Vals xs us → Vals xs.reverse us.reverse
  | _, _, .nil => .nil
  | _, _, .cons h t => by
    rw [List.reverse_cons, List.reverse_cons]
    exact (vals_rev t).append (.cons h .nil)
def tRevT (K : PySem.W.Frag) (te : TE) : TE := fun σ H Q => te σ H fun x H1 => ∃ a xs, x = .ref a ∧ SqT K H1 a xs ∧ ∀ p, H1 p = none → Q (.ref p) (upd H1 p (.tup xs.reverse))
theorem pe_revT {e : Expr} {te : TE} {k : Nat} {p1 p2 p3 pos : Pos} (he : PE X e te) : PE X (.Subscript e (.Slice none none (some (.UnaryOp .USub (.Constant (.int 1) k p1) p2)) p3) pos) (tRevT X.K te) := by
  refine ⟨fun pins s σ H Q I h => ?_⟩
  refine Subscript_ (thn (he.run pins s σ H _ I h) fun v s1 ⟨x, H1, I1, r1, q1⟩ => ?_)
  obtain ⟨a, xs, ex, hx, q⟩ := q1
  subst ex
  cases r1
  have hst : PO X (some (.UnaryOp .USub (.Constant (.int 1) k p1) p2)) (tPart (tUn (rU fun i => .int (-i)) (tC (.int 1)))) := po_some (pe_un un_neg pe_int)
  refine wpAny_Slice (thn (po_none.run pins s1 σ H1 (fun o H2 => o = none ∧ H2 = H1) I1 ⟨rfl, rfl⟩) fun vl s2 ⟨l, H2, I2, pl, el, e2⟩ => ?_)
  subst el e2
  refine thn (po_none.run pins s2 σ H2 (fun o H3 => o = none ∧ H3 = H2) I2 ⟨rfl, rfl⟩) fun vu s3 ⟨u, H3, I3, pu, eu, e3⟩ => ?_
  subst eu e3
  refine thn (hst.run pins s3 σ H3 (fun o H4 => o = some (-1) ∧ H4 = H3) I3 ⟨1, rfl, -1, rfl, rfl, rfl⟩) fun vs s4 ⟨o, H4, I4, ps, eo, e4⟩ => ?_
  subst eo e4
  have I5 : Inv X pins σ H4 { s4 with heap := s4.heap.push { cls := .type "slice", data := .fields #[vl, vu, vs] } } := I4.kept (t' := s4.toks) fun b ob q => Heap.get?_push_of_some _ q
  obtain ⟨its, r, ht, hz⟩ := I5.tuple hx
  show wpAny (model X.prog X.w) X.A (subscriptTail e (.Slice none none (some (.UnaryOp .USub (.Constant (.int 1) k p1) p2)) p3) (.ref a) (.ref s4.heap.objs.size)) (EP X pins σ Q) X.xe { s4 with heap := s4.heap.push { cls := .type "slice", data := .fields #[vl, vu, vs] } }
  cases pl
  cases pu
  cases ps with
  | int i tk =>
  refine tail_any (ops := [.ref a, .ref s4.heap.objs.size]) ht.typeIs PyProof.Rows.slot_tuple_getitem.lookup ?_ (by with_unfolding_all rfl)
  refine getItem_tuple_rev ht (Heap.IsSliceOf.new _ _ _ _) ?_ (by rw [List.size_toArray, ← r.length]; exact hz)
  refine ⟨.ref _, _, I5.laid (t' := s4.toks) (o := .tup xs.reverse) (fun b ob q => Heap.get?_push_of_some _ q) (Nat.le_refl _) ?_, rfl, q _ (I5.hok.fresh (Nat.le_refl _))⟩
  exact ⟨by rw [List.length_reverse]; exact hz, its.reverse, vals_rev r, IsTup.new _ _⟩
def revD (x : D) : M D := match x with
  | .tup ds => pure (.tup ds.reverse)
  | .flst ds => allocC (.lst ds.reverse)
  | .ptr n => fun s => match s[n]? with
    | some (.lst ds) => allocC (.lst ds.reverse) s
    | _ => .stuck
  | _ => stuck
theorem rev_rep {K : PySem.W.Frag} {μ : List Addr} {H : Hp} : ∀ {xs : List V} {ds : List D}, RepL K μ H xs ds → RepL K μ H xs.reverse ds.reverse
  | _, _, .nil => .nil
  | _, _, .cons h t => by
    rw [List.reverse_cons, List.reverse_cons]
    exact RepL.snoc h (rev_rep t)
theorem se_rev {e : Expr} {me : Env → M D} {k : Nat} {p1 p2 p3 pos : Pos} (he : SE X E e me) : SE X E (.Subscript e (.Slice none none (some (.UnaryOp .USub (.Constant (.int 1) k p1) p2)) p3) pos) (unM revD me) := PE.imp (PE.or (pe_revT he) (pe_revL he)) (by
  rintro σ H Q ⟨μ, env, s, hv, hs, post⟩
  by_cases hd : ∃ ds s1, me env s = .ok (.tup ds) s1
  · obtain ⟨ds, s1, e1⟩ := hd
    refine .inl ⟨μ, env, s, hv, hs, ?_⟩
    have p0 := Post.bind post
    rw [e1] at p0 ⊢
    intro μ1 H1 g1 hs1 v hx
    have p1 := p0 μ1 H1 g1 hs1
    cases hx with
    | @tup a xs ds ht hl => exact ⟨a, xs, rfl, ht, post_tup hs1 (rev_rep hl) p1⟩
  · refine .inr ⟨μ, env, s, hv, hs, ?_⟩
    have p0 := Post.bind post
    cases e1 : me env s with
    | stuck => rw [e1] at p0; exact p0
    | exc c s1 => rw [e1] at p0; exact p0
    | ok x s1 =>
      rw [e1] at p0
      intro μ1 H1 g1 hs1 v hx
      have p1 := p0 μ1 H1 g1 hs1
      unfold revD at p1
      cases hx with
      | @tup a xs ds ht hl => exact (hd ⟨ds, s1, e1⟩).elim
      | @flst a xs ds ht hl => exact ⟨a, xs, rfl, ht.sqL, post_alloc hs1 (rev_rep hl) p1⟩
      | @ptr a n hn =>
        simp only [] at p1
        cases ec : s1[n]? with
        | none => simp only [ec] at p1; exact (show False from p1).elim
        | some c =>
          simp only [ec] at p1
          cases c with
          | lst ds =>
            obtain ⟨xs, h1, hl⟩ := cell_lst hs1 hn ec
            exact ⟨a, xs, rfl, SqL.of h1, post_alloc hs1 (rev_rep hl) p1⟩
          | dK kvs => exact (show False from p1).elim
          | dT kvs => exact (show False from p1).elim
          | ins C fs => exact (show False from p1).elim
      | _ => exact (show False from p1).elim)
end
end PL

/-! PL15: xs.pop(); sorted of a list of pairs of integers. -/
namespace PL
open PySem PySem.Spec PyProof.Rows L2
def lpopD (x : D) : M D := match x with
  | .ptr n => fun s => match s[n]? with
    | some (.lst ds) => (match ds[ds.length - 1]? with
      | some d => .ok d (s.set n (.lst ds.dropLast))
      | none => .stuck)
    | _ => .stuck
  | _ => stuck
section
variable {X : Cx} {E : XK} {o e : Expr} {mo me : Env → M D} {apos cpos p pos : Pos}
theorem RepL.dropLast {K : PySem.W.Frag} {μ : List Addr} {H : Hp} : ∀ {xs : List V} {ds : List D}, RepL K μ H xs ds → RepL K μ H xs.dropLast ds.dropLast
  | _, _, .nil => .nil
  | _, _, .cons h .nil => .nil
  | _, _, .cons h (.cons h2 t) => .cons h (RepL.dropLast (.cons h2 t))
theorem se_lpop (ho : SE X E o mo) (hbase : attributeBase o "pop" X.env (eval o X.env) = eval o X.env := by rfl) (hline : (apos.endLine == cpos.line) = true := by rfl) : SE X E (.Call (.Attribute o "pop" apos) [] [] cpos) (unM lpopD mo) := PE.imp (pe_bm0 PySem.F.plainAttrs_list PySem.F.slot_list_pop PySem.F.type_list_pop mt_pop ho hbase hline) (by
  rintro σ H Q ⟨μ, env, s, hv, hs, post⟩
  refine ⟨μ, env, s, hv, hs, (Post.bind post).mono fun x s1 μ1 H1 g1 hs1 p1 v hx => ?_⟩
  unfold lpopD at p1
  cases hx with
  | @ptr a n hn =>
    simp only [] at p1
    cases ec : s1[n]? with
    | none => simp only [ec] at p1; exact (show False from p1).elim
    | some c =>
      simp only [ec] at p1
      cases c with
      | lst ds =>
        obtain ⟨xs, h1, hl⟩ := cell_lst hs1 hn ec
        simp only [] at p1
        cases ed : ds[ds.length - 1]? with
        | none => simp only [ed] at p1; exact (show False from p1).elim
        | some d =>
          simp only [ed] at p1
          obtain ⟨w, hw, r⟩ := hl.get ed
          rw [← hl.length] at hw
          exact ⟨.inl ⟨rfl, xs, SqL.of h1⟩, a, xs, w, rfl, rfl, h1, hw, put_lst hs1 hn h1 (RepL.dropLast hl) r p1⟩
      | dK kvs => exact (show False from p1).elim
      | dT kvs => exact (show False from p1).elim
      | ins C fs => exact (show False from p1).elim
  | _ => exact (show False from p1).elim)
/-! ### sorted(xs), pairs of integers -/
def rSortedPQ (K : PySem.W.Frag) : List V → Hp → VK → Prop := fun vs H Q => ∃ (a : Addr) (xs : List V) (ps : List (Int × Int)), vs = [V.ref a] ∧ SqL K H a xs ∧ KeysAt K H xs ps ∧ ∀ ys qs p, qs.Perm ps → qs.Pairwise (fun x y => SrtO.lexB y x = false) → KeysAt K H ys qs → H p = none → Q (.ref p) (upd H p (.lst ys))
theorem keys_pair {pins : List (Addr × Obj)} {σ : L2.St} {H : Hp} {s : Shared} (I : Inv X pins σ H s) : ∀ {xs : List V} {us : List Value} {ps : List (Int × Int)}, KeysAt X.K H xs ps → Vals xs us → us.map (kOf s.heap) = ps ∧ (∀ v ∈ us, Srt.IsPair s.heap v (kOf s.heap v).1 (kOf s.heap v).2) ∧ (∀ v ∈ us, ∃ b, v = .ref b ∧ SqT X.K H b [.int (kOf s.heap v).1, .int (kOf s.heap v).2])
  | _, _, _, .nil, .nil => ⟨rfl, fun _ h => (by cases h), fun _ h => (by cases h)⟩
  | _ :: _, u :: us, q :: ps, .cons h t, .cons r rt => by
    obtain ⟨h1, h2, h3⟩ := keys_pair I t rt
    obtain ⟨b, rfl, hb⟩ := h
    obtain rfl : u = Value.ref b := r
    obtain ⟨its, rv, ⟨o, ho, hc, n, hd⟩, _⟩ := I.tuple hb
    obtain ⟨u1, u2, rfl, ri, rj⟩ := vals2 rv
    obtain ⟨t1, rfl⟩ := ri
    obtain ⟨t2, rfl⟩ := rj
    have pr : Srt.IsPair s.heap (.ref b) q.1 q.2 := ⟨b, o, t1, t2, n, rfl, ho, hc, hd⟩
    have ek := kOf_pair pr
    refine ⟨by rw [List.map_cons, h1, ek], fun v hv => ?_, fun v hv => ?_⟩
    · rcases List.mem_cons.mp hv with rfl | hv
      · rw [ek]; exact pr
      · exact h2 v hv
    · rcases List.mem_cons.mp hv with rfl | hv
      · rw [ek]; exact ⟨b, rfl, hb⟩
      · exact h3 v hv
theorem cr_sortedPQ : CallR X (.builtin "sorted") (rSortedPQ X.K) := by
  intro pins s σ H vs us Q I r h
  obtain ⟨a, xs, ps, rfl, hs, hk, q⟩ := h
  obtain ⟨its, rv, hl, hz⟩ := I.list hs
  obtain ⟨u, rfl, ru⟩ := vals1 r
  obtain rfl : u = Value.ref a := ru
  obtain ⟨h1, h2, h3⟩ := keys_pair I hk rv
  refine SrtO.sorted_pairsO (k := kOf s.heap) hl.isList (by rw [← rv.length]; exact hz) h2 fun h' d out e1 e2 kp hd hn => ?_
  have hm : ∀ v ∈ out, ∃ b, v = .ref b ∧ SqT X.K H b [.int (kOf s.heap v).1, .int (kOf s.heap v).2] := fun v hv => h3 v (e2.perm.mem_iff.mp hv)
  have hkeys : KeysAt X.K H (out.map bkV) (out.map (kOf s.heap)) := by
    clear e1 e2 hn
    induction out with
    | nil => exact .nil
    | cons v out ih =>
      obtain ⟨b, eb, hb⟩ := hm v List.mem_cons_self
      refine .cons ⟨b, by rw [eb]; rfl, hb⟩ (ih fun u hu => hm u (List.mem_cons_of_mem _ hu))
  obtain ⟨n, hn⟩ := hn
  refine ⟨.ref d, upd H d (.lst (out.map bkV)), I.laid (t' := s.toks) kp hd ⟨?_, out, n, bkV_vals fun u hu => (let ⟨b, eb, _⟩ := hm u hu; ⟨b, eb⟩), hn⟩, rfl, q _ (out.map (kOf s.heap)) d ?_ ?_ hkeys (I.hok.fresh hd)⟩
  · rw [List.length_map, e2.perm.length_eq, ← rv.length]
    exact hz
  · rw [← h1]
    exact e2.perm.map _
  · exact List.pairwise_map.mpr e1
def insP (p : Int × Int) : List (Int × Int) → List (Int × Int)
  | [] => [p]
  | q :: r => if SrtO.lexB q p = true then q :: insP p r else p :: q :: r
def sortP : List (Int × Int) → List (Int × Int)
  | [] => []
  | p :: r => insP p (sortP r)
def LeP (x y : Int × Int) : Prop := SrtO.lexB y x = false
theorem LeP.iff {x y : Int × Int} : LeP x y ↔ x.1 < y.1 ∨ (x.1 = y.1 ∧ x.2 ≤ y.2) := by
  unfold LeP
  constructor
  · intro h
    have := SrtO.lexB_no.mp h
    omega
  · intro h
    refine SrtO.lexB_no.mpr ?_
    omega
theorem insP_perm (p : Int × Int) : ∀ l : List (Int × Int), (insP p l).Perm (p :: l)
  | [] => List.Perm.refl _
  | q :: r => by
    unfold insP
    split
    · exact ((insP_perm p r).cons q).trans (List.Perm.swap _ _ _)
    · exact List.Perm.refl _
theorem sortP_perm : ∀ l : List (Int × Int), (sortP l).Perm l
  | [] => List.Perm.refl _
  | p :: r => (insP_perm p _).trans ((sortP_perm r).cons p)
theorem insP_sorted (p : Int × Int) : ∀ l : List (Int × Int), l.Pairwise LeP → (insP p l).Pairwise LeP
  | [], _ => List.pairwise_singleton _ _
  | q :: r, h => by
    obtain ⟨h1, h2⟩ := List.pairwise_cons.mp h
    unfold insP
    split
    · rename_i c
      refine List.pairwise_cons.mpr ⟨fun x hx => ?_, insP_sorted p r h2⟩
      rcases List.mem_cons.mp ((insP_perm p r).mem_iff.mp hx) with rfl | hx
      · have := SrtO.lexB_iff.mp c
        rw [LeP.iff]
        omega
      · exact h1 x hx
    · rename_i c
      have cp : LeP p q := by
        have : SrtO.lexB q p = false := by
          cases hh : SrtO.lexB q p with
          | false => rfl
          | true => exact absurd hh c
        exact this
      refine List.pairwise_cons.mpr ⟨fun x hx => ?_, h⟩
      rcases List.mem_cons.mp hx with rfl | hx
      · exact cp
      · have := h1 x hx
        rw [LeP.iff] at *
        omega
theorem sortP_sorted : ∀ l : List (Int × Int), (sortP l).Pairwise LeP
  | [] => .nil
  | p :: r => insP_sorted p _ (sortP_sorted r)
theorem leP_uniq : ∀ {l m : List (Int × Int)}, l.Pairwise LeP → m.Pairwise LeP → l.Perm m → l = m
  | [], m, _, _, h => (List.Perm.eq_nil h.symm).symm
  | p :: l, m, hl, hm, h => by
    cases m with
    | nil => exact absurd (List.Perm.eq_nil h) (by simp)
    | cons q m =>
      obtain ⟨l1, l2⟩ := List.pairwise_cons.mp hl
      obtain ⟨m1, m2⟩ := List.pairwise_cons.mp hm
      have e : p = q := by
        rcases List.mem_cons.mp (h.mem_iff.mp List.mem_cons_self) with e | hp
        · exact e
        · rcases List.mem_cons.mp (h.mem_iff.mpr (List.mem_cons_self (a := q) (l := m))) with e | hq
          · exact e.symm
          · have a := l1 q hq
            have b := m1 p hp
            rw [LeP.iff] at a b
            exact Prod.ext (by omega) (by omega)
      subst e
      rw [leP_uniq l2 m2 h.cons_inv]
def dPl : List D → Option (List (Int × Int)) := mapO dPr
def sortPD (x : D) : M D := fun s => match seqD s x with
  | some ds => (match dPl ds with
    | some ps => allocC (.lst ((sortP ps).map pD)) s
    | none => .stuck)
  | none => .stuck
theorem dPl_rep {K : PySem.W.Frag} {μ : List Addr} {H : Hp} : ∀ {ds : List D} {xs : List V} {ps : List (Int × Int)}, dPl ds = some ps → RepL K μ H xs ds → KeysAt K H xs ps
  | [], _, ps, e, .nil => by
    cases e
    exact .nil
  | d :: r, _, ps, e, .cons h t => by
    unfold dPl mapO at e
    cases q : dPr d with
    | none => rw [q] at e; cases e
    | some p =>
      rw [q] at e
      cases q2 : mapO dPr r with
      | none => rw [q2] at e; cases e
      | some ms =>
        rw [q2] at e
        cases e
        exact .cons (dPr_rep q h) (dPl_rep (ds := r) q2 t)
theorem cr_sortPD : CallR X (.builtin "sorted") (RLof X.K E (fun1 sortPD)) := CallR.imp cr_sortedPQ (rl_1 fun μ s d v H Q hs r post => by
  unfold sortPD at post
  cases e1 : seqD s d with
  | none => simp only [e1] at post; exact (show False from post).elim
  | some ds =>
    cases e2 : dPl ds with
    | none => simp only [e1, e2] at post; exact (show False from post).elim
    | some ps =>
      simp only [e1, e2] at post
      obtain ⟨l, xs, rfl, hq, hl⟩ := seqD_rep hs r e1
      refine ⟨l, xs, ps, rfl, hq, dPl_rep e2 hl, fun ys qs p hp hw hk hn => ?_⟩
      have : qs = sortP ps := leP_uniq hw (sortP_sorted ps) (hp.trans (sortP_perm ps).symm)
      subst this
      exact post_alloc hs (keys_rep hk) post p hn)
end
end PL

/-! PL16: sorted of integers, of a dict's texts; all kinds in one. -/
namespace PL
open PySem PySem.Spec PyProof.Rows L2
def insI (p : Int) : List Int → List Int
  | [] => [p]
  | q :: r => if q < p then q :: insI p r else p :: q :: r
def sortI : List Int → List Int
  | [] => []
  | p :: r => insI p (sortI r)
theorem insI_perm (p : Int) : ∀ l : List Int, (insI p l).Perm (p :: l)
  | [] => List.Perm.refl _
  | q :: r => by
    unfold insI
    split
    · exact ((insI_perm p r).cons q).trans (List.Perm.swap _ _ _)
    · exact List.Perm.refl _
theorem sortI_perm : ∀ l : List Int, (sortI l).Perm l
  | [] => List.Perm.refl _
  | p :: r => (insI_perm p _).trans ((sortI_perm r).cons p)
theorem insI_sorted (p : Int) : ∀ l : List Int, l.Pairwise (· ≤ ·) → (insI p l).Pairwise (· ≤ ·)
  | [], _ => List.pairwise_singleton _ _
  | q :: r, h => by
    obtain ⟨h1, h2⟩ := List.pairwise_cons.mp h
    unfold insI
    split
    · refine List.pairwise_cons.mpr ⟨fun x hx => ?_, insI_sorted p r h2⟩
      rcases List.mem_cons.mp ((insI_perm p r).mem_iff.mp hx) with rfl | hx
      · omega
      · exact h1 x hx
    · refine List.pairwise_cons.mpr ⟨fun x hx => ?_, h⟩
      rcases List.mem_cons.mp hx with rfl | hx
      · omega
      · have := h1 x hx
        omega
theorem sortI_sorted : ∀ l : List Int, (sortI l).Pairwise (· ≤ ·)
  | [] => .nil
  | p :: r => insI_sorted p _ (sortI_sorted r)
theorem uniq_by {α : Type} {r : α → α → Prop} (anti : ∀ a b, r a b → r b a → a = b) : ∀ {l m : List α}, l.Pairwise r → m.Pairwise r → l.Perm m → l = m
  | [], m, _, _, h => (List.Perm.eq_nil h.symm).symm
  | p :: l, m, hl, hm, h => by
    cases m with
    | nil => exact absurd (List.Perm.eq_nil h) (by simp)
    | cons q m =>
      obtain ⟨l1, l2⟩ := List.pairwise_cons.mp hl
      obtain ⟨m1, m2⟩ := List.pairwise_cons.mp hm
      have e : p = q := by
        rcases List.mem_cons.mp (h.mem_iff.mp List.mem_cons_self) with e | hp
        · exact e
        · rcases List.mem_cons.mp (h.mem_iff.mpr (List.mem_cons_self (a := q) (l := m))) with e | hq
          · exact e.symm
          · exact anti p q (l1 q hq) (m1 p hp)
      subst e
      rw [uniq_by anti l2 m2 h.cons_inv]
/-! texts -/
def LeS (x y : Str) : Prop := ¬ (y.cps.toList < x.cps.toList)
theorem LeS.trans {x y z : Str} (h : LeS x y) (k : LeS y z) : LeS x z := by
  unfold LeS at *
  exact List.le_trans (l₁ := x.cps.toList) (l₂ := y.cps.toList) (l₃ := z.cps.toList) h k
theorem LeS.anti (x y : Str) (h : LeS x y) (k : LeS y x) : x = y := by
  have e : x.cps.toList = y.cps.toList := List.le_antisymm h k
  obtain ⟨⟨a⟩⟩ := x
  obtain ⟨⟨b⟩⟩ := y
  have e' : a = b := e
  rw [e']
theorem LeS.of_not {x y : Str} (h : ¬ LeS x y) : LeS y x := by
  unfold LeS at *
  intro k
  exact h fun k2 => List.lt_irrefl _ (List.lt_trans k k2)
theorem rising_pw : ∀ (p : Str) (l : List Str), risingS p l = true → (p :: l).Pairwise LeS
  | p, [], _ => List.pairwise_singleton _ _
  | p, x :: r, h => by
    unfold risingS at h
    rw [Bool.and_eq_true] at h
    have ih := rising_pw x r h.2
    have h1 : LeS p x := by
      have := h.1
      rw [ltCps_eq] at this
      unfold LeS
      simpa using this
    refine List.pairwise_cons.mpr ⟨fun y hy => ?_, ih⟩
    rcases List.mem_cons.mp hy with rfl | hy
    · exact h1
    · exact h1.trans ((List.pairwise_cons.mp ih).1 y hy)
theorem sortedS_pw : ∀ l : List Str, sortedS l = true → l.Pairwise LeS
  | [], _ => .nil
  | p :: l, h => rising_pw p l h
theorem insS_sorted (p : Str) : ∀ l : List Str, l.Pairwise LeS → (insS p l).Pairwise LeS
  | [], _ => List.pairwise_singleton _ _
  | q :: r, h => by
    obtain ⟨h1, h2⟩ := List.pairwise_cons.mp h
    unfold insS ltS
    by_cases c : q.cps.toList < p.cps.toList
    · rw [if_pos (decide_eq_true c)]
      refine List.pairwise_cons.mpr ⟨fun x hx => ?_, insS_sorted p r h2⟩
      rcases List.mem_cons.mp ((insS_perm p r).mem_iff.mp hx) with rfl | hx
      · unfold LeS
        intro k
        exact List.lt_irrefl _ (List.lt_trans c k)
      · exact h1 x hx
    · rw [if_neg (by rw [decide_eq_true_eq]; exact c)]
      refine List.pairwise_cons.mpr ⟨fun x hx => ?_, h⟩
      have c' : LeS p q := c
      rcases List.mem_cons.mp hx with rfl | hx
      · exact c'
      · exact c'.trans (h1 x hx)
theorem sortS_sorted : ∀ l : List Str, (sortS l).Pairwise LeS
  | [] => .nil
  | p :: r => insS_sorted p _ (sortS_sorted r)
def sortAnyD (x : D) : M D := fun s => match seqD s x with
  | some ds => (match dPl ds, dInts ds with
    | some ps, _ => allocC (.lst ((sortP ps).map pD)) s
    | none, some ns => allocC (.lst ((sortI ns).map D.int)) s
    | none, none => .stuck)
  | none => sortedD x s
theorem kStrs_rep {K : PySem.W.Frag} {μ : List Addr} {H : Hp} : ∀ {kvs : List (Key × D)} {xs : List (Key × V)} {ks : List Str}, kStrs kvs = some ks → RepK K μ H xs kvs → xs.map (·.1) = ks.map Sum.inr
  | [], [], ks, e, _ => by
    cases e
    rfl
  | [], p :: xs, _, _, h => by have := h.1; simp at this
  | q :: kvs, [], _, _, h => by have := h.1; simp at this
  | (k, d) :: kvs, (k', v) :: xs, ks, e, ⟨h1, h2⟩ => by
    rw [List.map_cons, List.map_cons] at h1 h2
    obtain rfl : k' = k := (List.cons.inj h1).1
    cases h2 with
    | cons r t =>
      unfold kStrs mapO at e
      cases k' with
      | inl i => cases e
      | inr x =>
        cases q2 : mapO keyStr kvs with
        | none => rw [q2] at e; cases e
        | some ms =>
          rw [q2] at e
          cases e
          have := kStrs_rep (kvs := kvs) q2 ⟨(List.cons.inj h1).2, t⟩
          rw [List.map_cons, List.map_cons, this]
theorem strs_rep {K : PySem.W.Frag} {μ : List Addr} {H : Hp} : ∀ ks : List Str, RepL K μ H (ks.map V.str) (ks.map D.str)
  | [] => .nil
  | x :: r => .cons (.str x) (strs_rep r)
theorem ints_rep {K : PySem.W.Frag} {μ : List Addr} {H : Hp} : ∀ ks : List Int, RepL K μ H (ks.map V.int) (ks.map D.int)
  | [] => .nil
  | x :: r => .cons (.int x) (ints_rep r)
section
variable {X : Cx} {E : XK}
theorem cr_sortAny (hc : X.calm = true) : CallR X (.builtin "sorted") (RLof X.K E (fun1 sortAnyD)) := CallR.imp (CallR.or cr_sortedPQ (CallR.or cr_sortedI (call_sortedD hc))) (rl_1 fun μ s d v H Q hs r post => by
  unfold sortAnyD at post
  cases e1 : seqD s d with
  | none =>
    simp only [e1] at post
    unfold sortedD at post
    cases r with
    | @ptr a n hn =>
      simp only [] at post
      cases ec : s[n]? with
      | none => simp only [ec] at post; exact (show False from post).elim
      | some c =>
        simp only [ec] at post
        cases c with
        | dK kvs =>
          simp only [] at post
          cases ek : kStrs kvs with
          | none => simp only [ek] at post; exact (show False from post).elim
          | some ks =>
            simp only [ek] at post
            split at post
            · rename_i hz
              obtain ⟨xs, h1, h2⟩ := cell_dK hs hn ec
              refine .inr (.inr ⟨a, xs, ks, rfl, .inl h1, kStrs_rep ek h2, hz, fun ys p hp hsd hn2 => ?_⟩)
              have : ys = sortS ks := uniq_by LeS.anti (sortedS_pw ys hsd) (sortS_sorted ks) (hp.trans (sortS_perm ks).symm)
              subst this
              exact post_alloc hs (strs_rep _) post p hn2
            · exact (show False from post).elim
        | lst ds => exact (show False from post).elim
        | dT kvs => exact (show False from post).elim
        | ins C fs => exact (show False from post).elim
    | _ => exact (show False from post).elim
  | some ds =>
    simp only [e1] at post
    obtain ⟨l, xs, rfl, hq, hl⟩ := seqD_rep hs r e1
    cases e2 : dPl ds with
    | some ps =>
      simp only [e2] at post
      refine .inl ⟨l, xs, ps, rfl, hq, dPl_rep e2 hl, fun ys qs p hp hw hk hn => ?_⟩
      have : qs = sortP ps := leP_uniq hw (sortP_sorted ps) (hp.trans (sortP_perm ps).symm)
      subst this
      exact post_alloc hs (keys_rep hk) post p hn
    | none =>
      cases e3 : dInts ds with
      | none => simp only [e2, e3] at post; exact (show False from post).elim
      | some ns =>
        simp only [e2, e3] at post
        have ex := dInts_rep e3 hl
        subst ex
        refine .inr (.inl ⟨l, ns, rfl, hq, fun ns' p hp hw hn => ?_⟩)
        have : ns' = sortI ns := uniq_by (fun a b h k => by omega) hw (sortI_sorted ns) (hp.trans (sortI_perm ns).symm)
        subst this
        exact post_alloc hs (ints_rep _) post p hn)
end
end PL

/-! PL17: dict(d), a copy. -/
namespace PL
open PySem PySem.Spec PyProof.Rows L2
section
variable {X : Cx} {E : XK}
theorem cr_dictD : CallR X (.type "dict") (RLof X.K E (fun1 dictD)) := CallR.imp call_dictD (rl_1 fun μ s d v H Q hs r post => by
  unfold dictD at post
  cases r with
  | @ptr a n hn =>
    simp only [] at post
    cases ec : s[n]? with
    | none => simp only [ec] at post; exact (show False from post).elim
    | some c =>
      simp only [ec] at post
      cases c with
      | dK kvs =>
        obtain ⟨xs, h1, h2⟩ := cell_dK hs hn ec
        exact ⟨a, xs, rfl, .inl h1, fun p hp => post_dict hs h2 post p hp⟩
      | lst ds => exact (show False from post).elim
      | dT kvs => exact (show False from post).elim
      | ins C fs => exact (show False from post).elim
  | _ => exact (show False from post).elim)
end
end PL

/-! PL18: defs that raise. -/
namespace PL
open PySem PySem.Spec PyProof.Rows L2
def raiseM (C : Str) (me : Env → M D) (env : Env) : M Out := me env >>= fun _ => fun s => .exc C s
/-- what an own exception class without __init__ must have -/
structure ExcC (K : PySem.W.Frag) (mg : Str → Option Value) (x : Str) (C : Addr) : Prop where
  n : ClsAt K x C
  g : mg x = some (.ref C)
  k : PySem.W.keepIn K (.ref C) = true
  q : PySem.W.excIn K C [.type "ValueError", .type "Exception", .type "BaseException", .type "object"] "ValueError.__new__" = true
  b : PySem.W.subIn K (.ref C) (.type "BaseException") = some true
  t : PySem.W.typeIn K (.ref C) = some (.type "type")
section
variable {X : Cx} {E : XK}
theorem ss_raise {x : Str} {C : Addr} {e : Expr} {me : Env → M D} {p pos pos2 : Pos} (hc : X.calm = true) (tk : Takes X (fun cls d _ H => E cls d H)) (c : ExcC X.K X.mg x C) (hg : Gl X x) (he : SE X E e me) (hs : starEach [e] X.env = (false, eval e X.env) :: starEach [] X.env := by rfl) (hdb : (x == ("__debug__" : Str)) = false := by decide) :
    SS X E (.Raise (some (.Call (.Name x p) [e] [] pos2)) none pos) (raiseM x me) := PS.imp (ps_raise hc tk (SkE.pmk_own1 PySem.F.excBase_ValueError c.q c.g c.k (raises_own c.b c.t) hg he hs hdb)) (by
  rintro Dd σ H ⟨μ, env, s, hv, hs, post⟩
  exact ⟨μ, env, s, hv, hs, (Post.bind post).mono fun d s1 μ1 H1 g1 hs1 p1 v hx => p1 C c.n μ1 H1 (Grow.refl _ _) hs1⟩)
end
section
variable {P : Program} {w : World} {K : PySem.W.Frag} {mg : Str → Option Value} {base : Heap}
/-- what raises nothing may be called where something may be raised -/
theorem fn_up {k n : Nat} {f : Addr} {fd : FuncData} {ps : List Str} {F : List D → M D} (h : FnOk P w K mg base CX0 k f fd ps (spM K n F)) : FnOk P w K mg base (L2.CX P w) k f fd ps (spM K n F) :=
  ⟨h.len, fun A outer s H args us vs Q E hr he hb hv hs => codeAny_mono (h.run A outer s H args us vs Q E hr he hb hv hs) fun r s' q => by
    cases r with
    | error e => exact False.elim q
    | ok fl => cases fl <;> exact q⟩
theorem fn_okX {x qual : Str} {st : Stmt} {f : Addr} {fd : FuncData} {N ps : List Str} {k n : Nat} {m : Env → M Out} (F : Fun K x qual st f fd) (Sc : FnScope N ps (defScope st)) (hn : ps.length = n)
    (hbody : ∀ (cdv : Value) (A : Around) (outer : List PySem.Env) (s : Shared) (H : Hp) (E : XK), Room k (A.deeper (envOfC qual (defScope st) s.heap.objs.size f cdv)) → SSs (cxOf (L2.CX P w) P w K mg base N qual (defScope st) f cdv A outer s H E) E (defBody st) m) :
    FnOk P w K mg base (L2.CX P w) (k + 1) f fd ps (spM K n (fnM N.length m)) := by
  refine F.okX Sc (fun vs H Q E h => ?_) (fun cdv A outer s H vs Q E hr h => ?_)
  · obtain ⟨μ, s, ds, hs, hl, hlen, p⟩ := h
    rw [hl.length, hlen, hn]
  · obtain ⟨μ, s0, ds, hs, hl, hlen, p⟩ := h
    refine ⟨_, hbody cdv A outer s H E hr, μ, startE N.length ds, s0, simV_start N hl, hs, (Post.bind p).mono fun o s1 μ1 H1 g1 hs1 p1 => ?_⟩
    cases o with
    | nx env => exact fun σ' _ => post_val hs1 p1 .non
    | rt d => exact fun v hr => post_val hs1 p1 hr
    | bk env => exact (show False from p1).elim
    | ct env => exact (show False from p1).elim
end
end PL

/-! PL19: classes and methods of the text. -/
namespace PL
open PySem PySem.Spec PyProof.Rows L2
section
variable {K : PySem.W.Frag} {mg : Str → Option Value}
/-- a class of the text -/
structure ClsOk (K : PySem.W.Frag) (mg : Str → Option Value) (x : Str) (cA : Addr) : Prop where
  n : ClsAt K x cA
  g : mg x = some (.ref cA)
  c : Cls K cA
structure MetOk (K : PySem.W.Frag) (cA : Addr) (x qual : Str) (st : Stmt) (ps : List Str) (f : Addr) (fd : FuncData) : Prop where
  fn : Fun K x qual st f fd
  b : Binds K fd ps []
  m : Meth K cA x f
inductive MetIn (K : PySem.W.Frag) (cA : Addr) (x qual : Str) (st : Stmt) : Prop where
  | mk {f : Addr} {od an : Option Addr} {sl : Array (Option Value)} {oc kV dc pm cd ct : Value} (a : PySem.W.findIn K (.ref cA) x = some (some (.ref f))) (i : PySem.W.isFn K (.ref f) = true)
      (l : K.lookup f = some ⟨oc, od, .func (PySem.W.fnOf x qual (defArgs st) (defBody st) (defScope st) .none kV dc pm an cd ct), sl⟩) (c : PySem.W.codeIn K cd qual = true) (k : PySem.W.keepIn K (.ref f) = true) : MetIn K cA x qual st
theorem MetIn.get {cA : Addr} {x qual : Str} {st : Stmt} (d : MetIn K cA x qual st) (ps : List Str)
    (hb : ∀ (kV doc pm : Value) (an : Option Addr) (cdv ct : Value) (us : List Value), us.length = ps.length → bindArgs (PySem.W.fnOf x qual (defArgs st) (defBody st) (defScope st) .none kV doc pm an cdv ct) ⟨us, []⟩ = pure (ps.zip us)) :
    ∃ f fd, MetOk K cA x qual st ps f fd := by
  obtain ⟨a, i, l, c, k⟩ := d
  have F := fun_mk (st := st) l c k
  exact ⟨_, _, ⟨F, F.binds hb, ⟨a, i, k⟩⟩⟩
inductive ClsIn (K : PySem.W.Frag) (x : Str) (cA : Addr) : Prop where
  | mk (n : PySem.W.nsIn K mainGlobals x = some (some (.ref cA))) (pg : PySem.W.plainGet K cA Str.empty = true) (hd : PySem.W.hasDictIn K cA = true) (po : PySem.W.plainOver K cA = true) (sa : PySem.W.findIn K (.ref cA) "__setattr__" = some (some (.builtin "object.__setattr__"))) : ClsIn K x cA
theorem ClsIn.get {x : Str} {cA : Addr} {h : Heap} (d : ClsIn K x cA) (X : K.In h) (G : h.Ns mainGlobals mg) : ClsOk K mg x cA := by
  obtain ⟨n, pg, hd, po, sa⟩ := d
  exact ⟨n, PySem.W.mg_of X G n, pg, hd, po, sa⟩
theorem mk_of_met {cA : Addr} {qual : Str} {st : Stmt} {ps : List Str} {f : Addr} {fd : FuncData} (d : MetOk K cA "__init__" qual st ps f fd) (h : PySem.W.makesIn K cA = true) (k : PySem.W.keepIn K (.ref cA) = true) : Mk K cA f := ⟨h, d.m.at_, d.m.fn, k⟩
def clsBody : Stmt → List Stmt
  | .ClassDef _ _ _ body .. => body
  | _ => []
end
end PL

/-! M0: fractions, Euclid's steps, the law's own draws: mathematics and small readings. -/
namespace PL
open PySem PySem.Spec PyProof.Rows L2

abbrev num (n d : Int) : D := .tup [.int n, .int d]
/-- what is taken out of n and d: their greatest divisor, with d's sign -/
def ratC (n d : Int) : Int := if d < 0 then -((Nat.gcd n.natAbs d.natAbs : Nat) : Int) else ((Nat.gcd n.natAbs d.natAbs : Nat) : Int)
def rat (n d : Int) : Int × Int := (n / ratC n d, d / ratC n d)
structure IsRat (r : Int × Int) (n d : Int) : Prop where
  pos : 0 < r.2
  eq : r.1 * d = n * r.2
  cop : Nat.gcd r.1.natAbs r.2.natAbs = 1
theorem ratC_abs (n d : Int) : (ratC n d).natAbs = Nat.gcd n.natAbs d.natAbs := by
  unfold ratC
  split <;> omega
theorem gcd_pos {n d : Int} (h : d ≠ 0) : 0 < Nat.gcd n.natAbs d.natAbs := Nat.gcd_pos_of_pos_right _ (by omega)
theorem ratC_ne {n d : Int} (h : d ≠ 0) : ratC n d ≠ 0 := fun z => by
  have h1 := ratC_abs n d
  have h2 := gcd_pos (n := n) h
  rw [z] at h1
  simp at h1
  omega
theorem ratC_n (n d : Int) : ratC n d ∣ n := Int.natAbs_dvd_natAbs.mp (by rw [ratC_abs]; exact Nat.gcd_dvd_left _ _)
theorem ratC_d (n d : Int) : ratC n d ∣ d := Int.natAbs_dvd_natAbs.mp (by rw [ratC_abs]; exact Nat.gcd_dvd_right _ _)
theorem ratC_bt {n d : Int} {k : Nat} (h : d ≠ 0) (b : Bt k d) : Bt k (ratC n d) := b.le (by
  rw [ratC_abs]
  exact Nat.gcd_le_right _ (by omega))
theorem rat_n (n d : Int) : ratC n d * (rat n d).1 = n := Int.mul_ediv_cancel' (ratC_n n d)
theorem rat_d (n d : Int) : ratC n d * (rat n d).2 = d := Int.mul_ediv_cancel' (ratC_d n d)
theorem rat_is {n d : Int} (h : d ≠ 0) : IsRat (rat n d) n d := by
  have hn := rat_n n d
  have hd := rat_d n d
  have hc := ratC_ne (n := n) h
  refine ⟨?_, ?_, ?_⟩
  · have hs : ratC n d < 0 ↔ d < 0 := by
      have h1 := gcd_pos (n := n) h
      unfold ratC
      split <;> omega
    have h0 : (rat n d).2 ≠ 0 := fun z => by
      rw [z, Int.mul_zero] at hd
      exact h hd.symm
    by_cases hlt : d < 0
    · have hcn := hs.mpr hlt
      by_cases hp : 0 < (rat n d).2
      · exact hp
      · have := Int.mul_nonneg_of_nonpos_of_nonpos (Int.le_of_lt hcn) (by omega : (rat n d).2 ≤ 0)
        omega
    · have hcp : 0 < ratC n d := by
        have := mt hs.mp hlt
        omega
      by_cases hp : 0 < (rat n d).2
      · exact hp
      · have := Int.mul_nonpos_of_nonneg_of_nonpos (Int.le_of_lt hcp) (by omega : (rat n d).2 ≤ 0)
        omega
  · have e1 : (rat n d).1 * d = (rat n d).1 * (ratC n d * (rat n d).2) := by rw [hd]
    have e2 : n * (rat n d).2 = (ratC n d * (rat n d).1) * (rat n d).2 := by rw [hn]
    rw [e1, e2]
    grind
  · have e1 : n.natAbs = Nat.gcd n.natAbs d.natAbs * (rat n d).1.natAbs := by
      rw [← ratC_abs, ← Int.natAbs_mul, hn]
    have e2 : d.natAbs = Nat.gcd n.natAbs d.natAbs * (rat n d).2.natAbs := by
      rw [← ratC_abs, ← Int.natAbs_mul, hd]
    have e3 := Nat.gcd_mul_left (Nat.gcd n.natAbs d.natAbs) (rat n d).1.natAbs (rat n d).2.natAbs
    rw [← e1, ← e2] at e3
    have hg := gcd_pos (n := n) h
    exact Nat.eq_of_mul_eq_mul_left hg (by rw [Nat.mul_one]; exact e3.symm)
theorem rat_bt1 {n d : Int} {k : Nat} (h : d ≠ 0) (b : Bt k n) : Bt k (rat n d).1 := b.le (by
  have e := congrArg Int.natAbs (rat_n n d)
  rw [Int.natAbs_mul] at e
  have := ratC_ne (n := n) h
  have hp : 0 < (ratC n d).natAbs := by omega
  rw [← e]
  exact Nat.le_mul_of_pos_left _ hp)
theorem rat_bt2 {n d : Int} {k : Nat} (h : d ≠ 0) (b : Bt k d) : Bt k (rat n d).2 := b.le (by
  have e := congrArg Int.natAbs (rat_d n d)
  rw [Int.natAbs_mul] at e
  have := ratC_ne (n := n) h
  have hp : 0 < (ratC n d).natAbs := by omega
  conv => rhs; rw [← e]
  exact Nat.le_mul_of_pos_left _ hp)
theorem rat_pos {n d : Int} (h : d ≠ 0) : 0 < (rat n d).2 := (rat_is h).pos

/-! ### Euclid -/
/-- the greatest divisor by steps; at most k of them -/
def euc : Nat → Int → Int → Int
  | 0, _, _ => 1
  | k + 1, a, b => if b = 0 then (if a < 0 then -a else a) else euc k b (a % b)
theorem euc_ok : ∀ (k : Nat) (a b : Int) (n : Nat), 0 ≤ b → b < 2 ^ k → 2 * k + 1 ≤ n → euc n a b = ((Nat.gcd a.natAbs b.natAbs : Nat) : Int)
  | k, a, b, 0, _, _, h => by omega
  | k, a, b, n + 1, h0, hb, hn => by
    unfold euc
    by_cases hz : b = 0
    · rw [if_pos hz, hz]
      simp only [Int.natAbs_zero, Nat.gcd_zero_right]
      split <;> omega
    · rw [if_neg hz]
      have hg : ∀ x y : Int, y ≠ 0 → Nat.gcd y.natAbs (x % y).natAbs = Nat.gcd x.natAbs y.natAbs := fun x y hy => by
        have e := Int.gcd_add_mul_left_right y (x % y) (x / y)
        rw [Int.emod_add_mul_ediv] at e
        show Int.gcd y (x % y) = Int.gcd x y
        rw [← e, Int.gcd_comm]
      have hb1 : 0 ≤ a % b := Int.emod_nonneg _ hz
      have hb2 : a % b < b := Int.emod_lt_of_pos _ (by omega)
      cases k with
      | zero =>
        exfalso
        have : (2 : Int) ^ 0 = 1 := rfl
        omega
      | succ k =>
        cases n with
        | zero => omega
        | succ n =>
          unfold euc
          by_cases hz1 : a % b = 0
          · rw [if_pos hz1, ← hg a b hz, hz1]
            simp only [Int.natAbs_zero, Nat.gcd_zero_right]
            split <;> omega
          · rw [if_neg hz1]
            have h1 : 0 ≤ b % (a % b) := Int.emod_nonneg _ hz1
            have h2 : b % (a % b) < a % b := Int.emod_lt_of_pos _ (by omega)
            have h3 : 2 * (b % (a % b)) < b := by
              have e := Int.emod_add_mul_ediv b (a % b)
              have q : 1 ≤ b / (a % b) := by
                have := Int.ediv_le_ediv (show (0 : Int) < a % b by omega) (Int.le_of_lt hb2)
                rw [Int.ediv_self hz1] at this
                exact this
              have m : a % b ≤ (a % b) * (b / (a % b)) := by
                have := Int.mul_le_mul_of_nonneg_left q hb1
                rw [Int.mul_one] at this
                exact this
              omega
            have h4 : b % (a % b) < 2 ^ k := by
              rw [Int.pow_succ] at hb
              omega
            rw [euc_ok k (a % b) (b % (a % b)) n h1 h4 (by omega), hg b (a % b) hz1, hg a b hz]

/-! ### readings of the law's own small defs -/
theorem isi_run {T t : String} {d : D} {s : S} {b : Bool} (h1 : tyNm s d = some t) (h2 : kitB t T = some b) : isiD T d s = .ok (.bl b) s := by
  unfold isiD
  rw [h1]
  simp only [h2]
theorem isi_tt {ds : List D} {s : S} : isiD "tuple" (.tup ds) s = .ok (.bl true) s := isi_run rfl (by decide +kernel)
theorem isi_ii {i : Int} {s : S} : isiD "int" (.int i) s = .ok (.bl true) s := isi_run rfl (by decide +kernel)
theorem isi_bi {i : Bool} {s : S} : isiD "int" (.bl i) s = .ok (.bl true) s := isi_run rfl (by decide +kernel)
theorem isi_ib {i : Int} {s : S} : isiD "bool" (.int i) s = .ok (.bl false) s := isi_run rfl (by decide +kernel)
theorem isi_bb {i : Bool} {s : S} : isiD "bool" (.bl i) s = .ok (.bl true) s := isi_run rfl (by decide +kernel)
section
variable {mi : Env → M Src} {g : D → Env → M Env} {t : Env → M Bool} {e : Env → M D} {vs : List Nat} {env env0 : Env} {s : S} {r : Src} {d : D} {ds : List D}
theorem compM_run : compM mi g t e vs env s = (mi env s).on fun r s1 => (szM r.items.length s1).on fun _ s2 => (collM r g t e (wipeE env vs) r.items s2).on fun ys s3 => .ok (.ptr s3.length) (s3 ++ [.lst ys]) := by
  show (mi env >>= _) s = _
  rw [bind_on]
  congr 1
theorem szM_run {n : Nat} (h : n ≤ 100000) : szM n s = .ok () s := by
  show (if n ≤ 100000 then (Pure.pure () : M Unit) else stuck) s = _
  rw [if_pos h]
  rfl
theorem coll_nil : collM r g t e env0 [] s = (guardM r s).on fun _ s1 => .ok [] s1 := bind_on _ _ _
theorem coll_cons : collM r g t e env0 (d :: ds) s = (guardM r s).on fun _ s1 => (g d env0 s1).on fun env s2 => (t env s2).on fun b s3 => if b = true then (e env s3).on fun y s4 => (collM r g t e env0 ds s4).on fun ys s5 => .ok (y :: ys) s5 else collM r g t e env0 ds s3 := by
  show (guardM r >>= _) s = _
  rw [bind_on]
  congr 1
  funext u s1
  rw [bind_on]
  congr 1
  funext env s2
  rw [bind_on]
  congr 1
  funext b s3
  cases b with
  | true =>
    show (e env >>= _) s3 = _
    rw [bind_on]
    congr 1
  | false => rfl
/-- a comprehension that keeps every item and whose store stays -/
theorem coll_map {v : D → D} (ok : r.Ok s) (h : ∀ d ∈ ds, ((g d env0 s).on fun env s2 => (t env s2).on fun b s3 => if b = true then e env s3 else .stuck) = .ok (v d) s) : collM r g t e env0 ds s = .ok (ds.map v) s := by
  induction ds with
  | nil =>
    rw [coll_nil, guard_pos ok]
    rfl
  | cons d ds ih =>
    have h1 := h d List.mem_cons_self
    have h2 := ih fun x hx => h x (List.mem_cons_of_mem _ hx)
    rw [coll_cons, guard_pos ok, on_ok]
    cases eg : g d env0 s with
    | stuck => rw [eg] at h1; cases h1
    | exc c s1 => rw [eg] at h1; cases h1
    | ok env s1 =>
      rw [eg, on_ok] at h1
      rw [on_ok]
      cases et : t env s1 with
      | stuck => rw [et] at h1; cases h1
      | exc c s1 => rw [et] at h1; cases h1
      | ok b s3 =>
        rw [et, on_ok] at h1
        rw [on_ok]
        cases b with
        | false => cases h1
        | true =>
          simp only [if_true] at h1 ⊢
          rw [h1, on_ok, h2]
          rfl
end
theorem all_new {s : S} {bs : List Bool} : allD (.ptr s.length) (s ++ [.lst (bs.map D.bl)]) = .ok (.bl (bs.all id)) (s ++ [.lst (bs.map D.bl)]) := by
  have e1 : seqD (s ++ [.lst (bs.map D.bl)]) (.ptr s.length) = some (bs.map D.bl) := by
    show (match (s ++ [Cell.lst (bs.map D.bl)])[s.length]? with
      | some (.lst ds) => some ds
      | _ => none) = _
    rw [List.getElem?_append_right (Nat.le_refl _), Nat.sub_self]
    rfl
  have e2 : ∀ l : List Bool, dBls (l.map D.bl) = some l := fun l => by
    induction l with
    | nil => rfl
    | cons b l ih =>
      show (dBls (l.map D.bl)).map (b :: ·) = _
      rw [ih]
      rfl
  unfold allD
  simp only [e1, e2]
theorem any_new {s : S} {bs : List Bool} : anyD (.ptr s.length) (s ++ [.lst (bs.map D.bl)]) = .ok (.bl (bs.any id)) (s ++ [.lst (bs.map D.bl)]) := by
  have e1 : seqD (s ++ [.lst (bs.map D.bl)]) (.ptr s.length) = some (bs.map D.bl) := by
    show (match (s ++ [Cell.lst (bs.map D.bl)])[s.length]? with
      | some (.lst ds) => some ds
      | _ => none) = _
    rw [List.getElem?_append_right (Nat.le_refl _), Nat.sub_self]
    rfl
  have e2 : ∀ l : List Bool, dBls (l.map D.bl) = some l := fun l => by
    induction l with
    | nil => rfl
    | cons b l ih =>
      show (dBls (l.map D.bl)).map (b :: ·) = _
      rw [ih]
      rfl
  unfold anyD
  simp only [e1, e2]
theorem new_at {s : S} {c : Cell} : (s ++ [c])[s.length]? = some c := by
  rw [List.getElem?_append_right (Nat.le_refl _), Nat.sub_self]
  rfl
theorem old_at {s g : S} {k : Nat} {c : Cell} (h : s[k]? = some c) : (s ++ g)[k]? = some c := by
  rw [List.getElem?_append_left (List.getElem?_eq_some_iff.mp h).1]
  exact h
end PL

/-! M1: signs, loops that end at the first hit, comprehensions that leave lists behind. -/
namespace PL
open PySem PySem.Spec PyProof.Rows L2
def sgn (x : Int) : Int := if 0 < x then 1 else if x < 0 then -1 else 0
theorem mk2 {i j : Int} {k l : Nat} (h : Bt k i) (m : Bt l j) (hk : k ≤ 400000) (hl : l ≤ 400000) : MulOk i j := mulOk_b (h.mono hk) (m.mono hl)
theorem sgn_pos {x k : Int} (h : 0 < k) : sgn (x * k) = sgn x := by
  unfold sgn
  by_cases h1 : 0 < x
  · rw [if_pos h1, if_pos (Int.mul_pos h1 h)]
  · by_cases h2 : x < 0
    · rw [if_neg h1, if_pos h2, if_neg (by have := Int.mul_neg_of_neg_of_pos h2 h; omega), if_pos (Int.mul_neg_of_neg_of_pos h2 h)]
    · have : x = 0 := by omega
      rw [this, Int.zero_mul]
theorem sgn_int (a b : Int) : (if decide (b < a) = true then (1 : Int) else 0) - (if decide (a < b) = true then 1 else 0) = sgn (a - b) := by
  unfold sgn
  by_cases h1 : b < a
  · rw [decide_eq_true h1, decide_eq_false (by omega : ¬ a < b), if_pos (by omega : 0 < a - b)]
    rfl
  · by_cases h2 : a < b
    · rw [decide_eq_false h1, decide_eq_true h2, if_neg (by omega : ¬ 0 < a - b), if_pos (by omega : a - b < 0)]
      rfl
    · rw [decide_eq_false h1, decide_eq_false h2, if_neg (by omega : ¬ 0 < a - b), if_neg (by omega : ¬ a - b < 0)]
      rfl
theorem sgn_bt (x : Int) : Bt 2 (sgn x) := by
  unfold sgn Bt
  split
  · decide
  · split <;> decide
theorem sgn_p (x : Int) : 0 < sgn x ↔ 0 < x := by
  unfold sgn
  split
  · exact ⟨fun _ => by assumption, fun _ => by decide⟩
  · split
    · exact ⟨fun h => absurd h (by decide), fun h => by omega⟩
    · exact ⟨fun h => absurd h (by decide), fun h => by omega⟩
theorem sgn_n (x : Int) : sgn x < 0 ↔ x < 0 := by
  unfold sgn
  split
  · exact ⟨fun h => absurd h (by decide), fun h => by omega⟩
  · split
    · exact ⟨fun _ => by assumption, fun _ => by decide⟩
    · exact ⟨fun h => absurd h (by decide), fun h => by omega⟩
theorem sgn_z (x : Int) : sgn x = 0 ↔ x = 0 := by
  unfold sgn
  split
  · exact ⟨fun h => absurd h (by decide), fun h => by omega⟩
  · split
    · exact ⟨fun h => absurd h (by decide), fun h => by omega⟩
    · exact ⟨fun _ => by omega, fun _ => rfl⟩
theorem Src.Ok.more {r : Src} {s g : S} (h : r.Ok s) : r.Ok (s ++ g) := by
  unfold PL.Src.Ok at *
  split
  · trivial
  · rename_i n ds e
    rw [e] at h
    exact old_at h
/-- a comprehension, a value for each turn; the store may grow -/
theorem coll_app {r : Src} {g : D → PL.Env → M PL.Env} {t : PL.Env → M Bool} {e : PL.Env → M D} {env0 : PL.Env} {v : D → D} : ∀ {ds : List D} {s : S}, r.Ok s → (∀ d ∈ ds, ∀ s' : S, (∃ g0, s' = s ++ g0) → ∃ g1, ((g d env0 s').on fun env s2 => (t env s2).on fun b s3 => if b = true then e env s3 else .stuck) = .ok (v d) (s' ++ g1)) → ∃ g1, collM r g t e env0 ds s = .ok (ds.map v) (s ++ g1)
  | [], s, ok, h => ⟨[], by
    rw [coll_nil, guard_pos ok, List.append_nil]
    rfl⟩
  | d :: ds, s, ok, h => by
    obtain ⟨g1, h1⟩ := h d List.mem_cons_self s ⟨[], (List.append_nil s).symm⟩
    obtain ⟨g2, h2⟩ := coll_app (ds := ds) (s := s ++ g1) (Src.Ok.more ok) fun x hx s' ⟨g0, e0⟩ => h x (List.mem_cons_of_mem _ hx) s' ⟨g1 ++ g0, by rw [e0, List.append_assoc]⟩
    refine ⟨g1 ++ g2, ?_⟩
    rw [coll_cons, guard_pos ok, on_ok]
    cases eg : g d env0 s with
    | stuck => rw [eg] at h1; cases h1
    | exc c s1 => rw [eg] at h1; cases h1
    | ok env s1 =>
      rw [eg, on_ok] at h1
      rw [on_ok]
      cases et : t env s1 with
      | stuck => rw [et] at h1; cases h1
      | exc c s1 => rw [et] at h1; cases h1
      | ok b s3 =>
        rw [et, on_ok] at h1
        rw [on_ok]
        cases b with
        | false => cases h1
        | true =>
          simp only [if_true] at h1 ⊢
          rw [h1, on_ok, h2, on_ok, List.append_assoc]
          rfl
/-- a loop that returns at the first hit -/
theorem loop_any {r : Src} {gg : D → PL.Env → M PL.Env} {b : PL.Env → M Out} {f : D → Bool} {rv : D} (I : PL.Env → S → Prop) (J : S → Prop) (ok : ∀ env s, I env s → r.Ok s) : ∀ (ds : List D) (env : PL.Env) (s : S), I env s →
    (∀ d ∈ ds, ∀ env s, I env s → ∃ o s', ((gg d env s).on fun e s2 => b e s2) = .ok o s' ∧ ((f d = true ∧ o = .rt rv ∧ J s') ∨ (f d = false ∧ ∃ env', o = .nx env' ∧ I env' s'))) →
    ∃ o s', loopM r gg b ds env s = .ok o s' ∧ ((ds.any f = true ∧ o = .rt rv ∧ J s') ∨ (ds.any f = false ∧ ∃ env', o = .nx env' ∧ I env' s'))
  | [], env, s, h, _ => ⟨.nx env, s, by rw [loop_nil, guard_pos (ok _ _ h)]; rfl, .inr ⟨rfl, env, rfl, h⟩⟩
  | d :: ds, env, s, h, turn => by
    obtain ⟨o, s', e1, c⟩ := turn d List.mem_cons_self env s h
    have e2 : loopM r gg b (d :: ds) env s = (R.ok o s').on (lpK r gg b ds) := by
      rw [loop_cons, guard_pos (ok _ _ h), on_ok]
      cases eg : gg d env s with
      | stuck => rw [eg] at e1; cases e1
      | exc c s1 => rw [eg] at e1; cases e1
      | ok e s1 =>
        rw [eg, on_ok] at e1
        rw [on_ok, e1]
    rcases c with ⟨hf, rfl, hj⟩ | ⟨hf, env', rfl, hi⟩
    · exact ⟨_, s', e2, .inl ⟨by rw [List.any_cons, hf]; rfl, rfl, hj⟩⟩
    · obtain ⟨o2, s2, e3, c3⟩ := loop_any I J ok ds env' s' hi fun x hx => turn x (List.mem_cons_of_mem _ hx)
      exact ⟨o2, s2, e2.trans e3, by rw [List.any_cons, hf, Bool.false_or]; exact c3⟩
theorem all_app {s : S} {bs : List Bool} : allD (.ptr s.length) (s ++ [.lst (bs.map D.bl)]) = .ok (.bl (bs.all id)) (s ++ [.lst (bs.map D.bl)]) := all_new
theorem rng2_run {a b : Int} {s : S} (h : (-4000000000 ≤ a ∧ a ≤ 4000000000) ∧ (-4000000000 ≤ b ∧ b ≤ 4000000000)) : rng2D [.int a, .int b] s = .ok ⟨rngItems a (b - a).toNat, none⟩ s := by
  show (if _ then _ else _ : M Src) s = _
  rw [if_pos h]
  rfl
end PL

namespace LAW
open PySem PySem.Spec PyProof.Rows L2 PL
def topS (i : Nat) : Stmt := PySem.Challenge.pw_roomyway_k01_turns_and_segments.main.body.getD i (.Pass ⟨0, 0, 0, 0⟩)
abbrev s__law_pot : Stmt := topS 16
abbrev N__law_pot : List Str := ["script", "seed", "cell"]
theorem sc__law_pot : FnScope N__law_pot ["script"] (defScope s__law_pot) := ⟨rfl, rfl, rfl, by decide +kernel, rfl, by decide +kernel, by decide +kernel⟩
abbrev s__law_next : Stmt := topS 17
abbrev N__law_next : List Str := ["pot", "limit", "mixed", "cell", "found"]
theorem sc__law_next : FnScope N__law_next ["pot", "limit"] (defScope s__law_next) := ⟨rfl, rfl, rfl, by decide +kernel, rfl, by decide +kernel, by decide +kernel⟩
abbrev s__law_gcd : Stmt := topS 20
abbrev N__law_gcd : List Str := ["a", "b", "k"]
theorem sc__law_gcd : FnScope N__law_gcd ["a", "b"] (defScope s__law_gcd) := ⟨rfl, rfl, rfl, by decide +kernel, rfl, by decide +kernel, by decide +kernel⟩
abbrev s__law_low : Stmt := topS 21
abbrev N__law_low : List Str := ["n", "d", "common"]
theorem sc__law_low : FnScope N__law_low ["n", "d"] (defScope s__law_low) := ⟨rfl, rfl, rfl, by decide +kernel, rfl, by decide +kernel, by decide +kernel⟩
abbrev s__law_number : Stmt := topS 22
abbrev N__law_number : List Str := ["pot"]
theorem sc__law_number : FnScope N__law_number ["pot"] (defScope s__law_number) := ⟨rfl, rfl, rfl, by decide +kernel, rfl, by decide +kernel, by decide +kernel⟩
abbrev s__law_cross : Stmt := topS 23
abbrev N__law_cross : List Str := ["p", "q", "r", "a", "b"]
theorem sc__law_cross : FnScope N__law_cross ["p", "q", "r"] (defScope s__law_cross) := ⟨rfl, rfl, rfl, by decide +kernel, rfl, by decide +kernel, by decide +kernel⟩
abbrev s__step : Stmt := topS 8
abbrev N__step : List Str := ["a", "b"]
theorem sc__step : FnScope N__step ["a", "b"] (defScope s__step) := ⟨rfl, rfl, rfl, by decide +kernel, rfl, by decide +kernel, by decide +kernel⟩
abbrev s_sign : Stmt := topS 2
abbrev N_sign : List Str := ["a"]
theorem sc_sign : FnScope N_sign ["a"] (defScope s_sign) := ⟨rfl, rfl, rfl, by decide +kernel, rfl, by decide +kernel, by decide +kernel⟩
abbrev s_turn : Stmt := topS 7
abbrev N_turn : List Str := ["p", "q", "r", "along", "up", "far_along", "far_up", "left", "right"]
theorem sc_turn : FnScope N_turn ["p", "q", "r"] (defScope s_turn) := ⟨rfl, rfl, rfl, by decide +kernel, rfl, by decide +kernel, by decide +kernel⟩
abbrev s__law_is_int : Stmt := topS 18
abbrev N__law_is_int : List Str := ["value"]
theorem sc__law_is_int : FnScope N__law_is_int ["value"] (defScope s__law_is_int) := ⟨rfl, rfl, rfl, by decide +kernel, rfl, by decide +kernel, by decide +kernel⟩
abbrev s__law_same : Stmt := topS 19
abbrev N__law_same : List Str := ["found", "value", "k"]
theorem sc__law_same : FnScope N__law_same ["found", "value"] (defScope s__law_same) := ⟨rfl, rfl, rfl, by decide +kernel, rfl, by decide +kernel, by decide +kernel⟩
abbrev s__law_between : Stmt := topS 24
abbrev N__law_between : List Str := ["a", "b", "c", "low", "high"]
theorem sc__law_between : FnScope N__law_between ["a", "b", "c"] (defScope s__law_between) := ⟨rfl, rfl, rfl, by decide +kernel, rfl, by decide +kernel, by decide +kernel⟩
abbrev s_is_less : Stmt := topS 1
abbrev N_is_less : List Str := ["a", "b"]
theorem sc_is_less : FnScope N_is_less ["a", "b"] (defScope s_is_less) := ⟨rfl, rfl, rfl, by decide +kernel, rfl, by decide +kernel, by decide +kernel⟩
abbrev s__is_between : Stmt := topS 10
abbrev N__is_between : List Str := ["n", "a", "b"]
theorem sc__is_between : FnScope N__is_between ["n", "a", "b"] (defScope s__is_between) := ⟨rfl, rfl, rfl, by decide +kernel, rfl, by decide +kernel, by decide +kernel⟩
abbrev s_on_segment : Stmt := topS 9
abbrev N_on_segment : List Str := ["p", "a", "b"]
theorem sc_on_segment : FnScope N_on_segment ["p", "a", "b"] (defScope s_on_segment) := ⟨rfl, rfl, rfl, by decide +kernel, rfl, by decide +kernel, by decide +kernel⟩
abbrev s_is_whole : Stmt := topS 14
abbrev N_is_whole : List Str := ["thing", "least", "most"]
theorem sc_is_whole : FnScope N_is_whole ["thing", "least", "most"] (defScope s_is_whole) := ⟨rfl, rfl, rfl, by decide +kernel, rfl, by decide +kernel, by decide +kernel⟩
abbrev s_is_corner_from : Stmt := topS 13
abbrev N_is_corner_from : List Str := ["thing", "least", "most"]
theorem sc_is_corner_from : FnScope N_is_corner_from ["thing", "least", "most"] (defScope s_is_corner_from) := ⟨rfl, rfl, rfl, by decide +kernel, rfl, by decide +kernel, by decide +kernel⟩
abbrev s_is_corner : Stmt := topS 12
abbrev N_is_corner : List Str := ["thing"]
theorem sc_is_corner : FnScope N_is_corner ["thing"] (defScope s_is_corner) := ⟨rfl, rfl, rfl, by decide +kernel, rfl, by decide +kernel, by decide +kernel⟩
abbrev s_point : Stmt := topS 6
abbrev N_point : List Str := ["corner", "x", "y"]
theorem sc_point : FnScope N_point ["corner"] (defScope s_point) := ⟨rfl, rfl, rfl, by decide +kernel, rfl, by decide +kernel, by decide +kernel⟩
abbrev s_is_name : Stmt := topS 11
abbrev N_is_name : List Str := ["thing", "letter"]
theorem sc_is_name : FnScope N_is_name ["thing"] (defScope s_is_name) := ⟨rfl, rfl, rfl, by decide +kernel, rfl, by decide +kernel, by decide +kernel⟩
abbrev s_law : Stmt := topS 25
abbrev N_law : List Str := ["script", "pot", "k", "n", "bad", "p", "q", "r", "share", "due", "thing", "j"]
theorem sc_law : FnScope N_law ["script"] (defScope s_law) := ⟨rfl, rfl, rfl, by decide +kernel, rfl, by decide +kernel, by decide +kernel⟩

noncomputable def m__law_pot : PL.Env → M Out :=
    (seqS (setS 1 (cM (.int 1)))
    (seqS (forS (srcM (varM 0)) (gNm 2) (setS 1 (binM modD (callM (fun1 intD) (consA (binM addD (binM mulD (varM 1) (cM (.int 31))) (varM 2)) nilA)) (cM (.int 2147483647)))))
    (retS (lstM (consA (callM (fun1 listD) (consA (varM 0) nilA)) (consA (cM (.int 0)) (consA (cM (.int 0)) (consA (varM 1) nilA))))))))
noncomputable def F__law_pot : List D → M D := fnM 3 m__law_pot
noncomputable def m__law_next : PL.Env → M Out :=
    (seqS (ifS (andT (tB (binM eqD (binM ixD (varM 0) (cM (.int 2))) (cM (.int 0)))) (tB (binM ltD (binM ixD (varM 0) (cM (.int 1))) (callM (fun1 lenD) (consA (binM ixD (varM 0) (cM (.int 0))) nilA))))) (seqS (setS 3 (callM (fun1 absD) (consA (callM (fun1 intD) (consA (binM ixD (binM ixD (varM 0) (cM (.int 0))) (binM ixD (varM 0) (cM (.int 1)))) nilA)) nilA)))
    (seqS (asgS (binM addD (binM ixD (varM 0) (cM (.int 1))) (cM (.int 1))) (gSubM (varM 0) (cM (.int 1)) setLD))
    (seqS (ifS (tB (binM ltD (varM 3) (binM powD (cM (.int 10)) (cM (.int 18))))) (retS (binM modD (callM (fun1 intD) (consA (varM 3) nilA)) (varM 1))) nxS)
    (asgS (varM 3) (gSubM (varM 0) (cM (.int 2)) setLD))))) nxS)
    (seqS (ifS (tB (binM gtD (binM ixD (varM 0) (cM (.int 2))) (cM (.int 0)))) (seqS (setS 4 (binM modD (callM (fun1 intD) (consA (binM ixD (varM 0) (cM (.int 2))) nilA)) (varM 1)))
    (seqS (asgS (binM fdivD (binM ixD (varM 0) (cM (.int 2))) (varM 1)) (gSubM (varM 0) (cM (.int 2)) setLD))
    (retS (varM 4)))) nxS)
    (seqS (asgS (binM modD (callM (fun1 intD) (consA (binM addD (binM mulD (binM ixD (varM 0) (cM (.int 3))) (cM (.int 48271))) (cM (.int 12345))) nilA)) (cM (.int 2147483647))) (gSubM (varM 0) (cM (.int 3)) setLD))
    (seqS (setS 2 (binM modD (callM (fun1 intD) (consA (binM addD (binM mulD (binM ixD (varM 0) (cM (.int 3))) (cM (.int 69621))) (binM fdivD (binM ixD (varM 0) (cM (.int 3))) (cM (.int 127)))) nilA)) (cM (.int 2147483629))))
    (retS (binM modD (callM (fun1 intD) (consA (varM 2) nilA)) (varM 1)))))))
noncomputable def F__law_next : List D → M D := fnM 5 m__law_next
noncomputable def m__law_gcd : PL.Env → M Out :=
    (seqS (forS (srcA rng1D (consA (cM (.int 60)) nilA)) (gNm 2) (seqS (ifS (tB (binM eqD (varM 1) (cM (.int 0)))) (retS (callM (fun1 absD) (consA (varM 0) nilA))) nxS)
    (parS 0 1 (varM 1) (binM modD (callM (fun1 intD) (consA (varM 0) nilA)) (varM 1)))))
    (retS (cM (.int 1))))
noncomputable def F__law_gcd : List D → M D := fnM 3 m__law_gcd
noncomputable def m__law_low : PL.Env → M Out :=
    (seqS (setS 2 (callM (lenM 2 F__law_gcd) (consA (varM 0) (consA (varM 1) nilA))))
    (retS (tupM (consA (binM fdivD (varM 0) (varM 2)) (consA (binM fdivD (varM 1) (varM 2)) nilA)))))
noncomputable def F__law_low : List D → M D := fnM 3 m__law_low
noncomputable def m__law_number : PL.Env → M Out :=
    (retS (callM (lenM 2 F__law_low) (consA (binM subD (callM (lenM 2 F__law_next) (consA (varM 0) (consA (cM (.int 13)) nilA))) (cM (.int 6))) (consA (binM addD (cM (.int 1)) (callM (lenM 2 F__law_next) (consA (varM 0) (consA (cM (.int 4)) nilA)))) nilA))))
noncomputable def F__law_number : List D → M D := fnM 1 m__law_number
noncomputable def m__law_cross : PL.Env → M Out :=
    (seqS (setS 3 (binM mulD (binM mulD (binM mulD (binM subD (binM mulD (binM ixD (binM ixD (varM 1) (cM (.int 0))) (cM (.int 0))) (binM ixD (binM ixD (varM 0) (cM (.int 0))) (cM (.int 1)))) (binM mulD (binM ixD (binM ixD (varM 0) (cM (.int 0))) (cM (.int 0))) (binM ixD (binM ixD (varM 1) (cM (.int 0))) (cM (.int 1))))) (binM subD (binM mulD (binM ixD (binM ixD (varM 2) (cM (.int 1))) (cM (.int 0))) (binM ixD (binM ixD (varM 0) (cM (.int 1))) (cM (.int 1)))) (binM mulD (binM ixD (binM ixD (varM 0) (cM (.int 1))) (cM (.int 0))) (binM ixD (binM ixD (varM 2) (cM (.int 1))) (cM (.int 1)))))) (binM ixD (binM ixD (varM 1) (cM (.int 1))) (cM (.int 1)))) (binM ixD (binM ixD (varM 2) (cM (.int 0))) (cM (.int 1)))))
    (seqS (setS 4 (binM mulD (binM mulD (binM mulD (binM subD (binM mulD (binM ixD (binM ixD (varM 1) (cM (.int 1))) (cM (.int 0))) (binM ixD (binM ixD (varM 0) (cM (.int 1))) (cM (.int 1)))) (binM mulD (binM ixD (binM ixD (varM 0) (cM (.int 1))) (cM (.int 0))) (binM ixD (binM ixD (varM 1) (cM (.int 1))) (cM (.int 1))))) (binM subD (binM mulD (binM ixD (binM ixD (varM 2) (cM (.int 0))) (cM (.int 0))) (binM ixD (binM ixD (varM 0) (cM (.int 0))) (cM (.int 1)))) (binM mulD (binM ixD (binM ixD (varM 0) (cM (.int 0))) (cM (.int 0))) (binM ixD (binM ixD (varM 2) (cM (.int 0))) (cM (.int 1)))))) (binM ixD (binM ixD (varM 1) (cM (.int 0))) (cM (.int 1)))) (binM ixD (binM ixD (varM 2) (cM (.int 1))) (cM (.int 1)))))
    (retS (binM subD (callM (fun1 intD) (consA (binM gtD (varM 3) (varM 4)) nilA)) (callM (fun1 intD) (consA (binM ltD (varM 3) (varM 4)) nilA))))))
noncomputable def F__law_cross : List D → M D := fnM 5 m__law_cross
noncomputable def m__step : PL.Env → M Out :=
    (retS (tupM (consA (binM subD (binM mulD (binM ixD (varM 1) (cM (.int 0))) (binM ixD (varM 0) (cM (.int 1)))) (binM mulD (binM ixD (varM 0) (cM (.int 0))) (binM ixD (varM 1) (cM (.int 1))))) (consA (binM mulD (binM ixD (varM 0) (cM (.int 1))) (binM ixD (varM 1) (cM (.int 1)))) nilA))))
noncomputable def F__step : List D → M D := fnM 2 m__step
noncomputable def m_sign : PL.Env → M Out :=
    (seqS (ifS (tB (binM gtD (binM ixD (varM 0) (cM (.int 0))) (cM (.int 0)))) (retS (cM (.int 1))) nxS)
    (seqS (ifS (tB (binM ltD (binM ixD (varM 0) (cM (.int 0))) (cM (.int 0)))) (retS (unM negD (cM (.int 1)))) nxS)
    (retS (cM (.int 0)))))
noncomputable def F_sign : List D → M D := fnM 1 m_sign
noncomputable def m_turn : PL.Env → M Out :=
    (seqS (setS 3 (callM (lenM 2 F__step) (consA (binM ixD (varM 0) (cM (.int 0))) (consA (binM ixD (varM 1) (cM (.int 0))) nilA))))
    (seqS (setS 4 (callM (lenM 2 F__step) (consA (binM ixD (varM 0) (cM (.int 1))) (consA (binM ixD (varM 1) (cM (.int 1))) nilA))))
    (seqS (setS 5 (callM (lenM 2 F__step) (consA (binM ixD (varM 0) (cM (.int 0))) (consA (binM ixD (varM 2) (cM (.int 0))) nilA))))
    (seqS (setS 6 (callM (lenM 2 F__step) (consA (binM ixD (varM 0) (cM (.int 1))) (consA (binM ixD (varM 2) (cM (.int 1))) nilA))))
    (seqS (setS 7 (binM mulD (binM mulD (binM mulD (binM ixD (varM 3) (cM (.int 0))) (binM ixD (varM 6) (cM (.int 0)))) (binM ixD (varM 4) (cM (.int 1)))) (binM ixD (varM 5) (cM (.int 1)))))
    (seqS (setS 8 (binM mulD (binM mulD (binM mulD (binM ixD (varM 4) (cM (.int 0))) (binM ixD (varM 5) (cM (.int 0)))) (binM ixD (varM 3) (cM (.int 1)))) (binM ixD (varM 6) (cM (.int 1)))))
    (retS (callM (lenM 1 F_sign) (consA (tupM (consA (binM subD (varM 7) (varM 8)) (consA (cM (.int 1)) nilA))) nilA)))))))))
noncomputable def F_turn : List D → M D := fnM 9 m_turn
noncomputable def m__law_is_int : PL.Env → M Out :=
    (retS (andM (unM (isiD "int") (varM 0)) (notM (unM (isiD "bool") (varM 0)))))
noncomputable def F__law_is_int : List D → M D := fnM 1 m__law_is_int
noncomputable def m__law_same (R_ : List D → M D) : PL.Env → M Out :=
    (seqS (ifS (tB (unM isnD (varM 1))) (retS (unM isnD (varM 0))) nxS)
    (seqS (ifS (truM (unM (isiD "bool") (varM 1))) (retS (andM (unM (isiD "bool") (varM 0)) (binM eqD (varM 0) (varM 1)))) nxS)
    (seqS (ifS (truM (unM (isiD "int") (varM 1))) (retS (andM (callM (lenM 1 F__law_is_int) (consA (varM 0) nilA)) (binM eqD (varM 0) (varM 1)))) nxS)
    (seqS (ifS (truM (unM (isiD "str") (varM 1))) (retS (andM (unM (isiD "str") (varM 0)) (binM eqD (varM 0) (varM 1)))) nxS)
    (seqS (ifS (orT (tB (binM neD (unM (isiD "list") (varM 1)) (unM (isiD "list") (varM 0)))) (tB (binM neD (unM (isiD "tuple") (varM 1)) (unM (isiD "tuple") (varM 0))))) (retS (cM (.bl false))) nxS)
    (retS (andM (binM eqD (callM (fun1 lenD) (consA (varM 0) nilA)) (callM (fun1 lenD) (consA (varM 1) nilA))) (callM (fun1 allD) (consA (compM (srcA rng1D (consA (callM (fun1 lenD) (consA (varM 1) nilA)) nilA)) (gNm 2) yesT (callM (lenM 2 R_) (consA (binM ixD (varM 0) (varM 2)) (consA (binM ixD (varM 1) (varM 2)) nilA))) [2]) nilA)))))))))
noncomputable def FF__law_same : Nat → List D → M D
  | 0 => fun _ => stuck
  | j + 1 => fnM 3 (m__law_same (FF__law_same j))
noncomputable def m__law_between : PL.Env → M Out :=
    (seqS (setS 3 (andM (binM leD (binM mulD (binM ixD (varM 0) (cM (.int 0))) (binM ixD (varM 1) (cM (.int 1)))) (binM mulD (binM ixD (varM 1) (cM (.int 0))) (binM ixD (varM 0) (cM (.int 1))))) (binM leD (binM mulD (binM ixD (varM 1) (cM (.int 0))) (binM ixD (varM 2) (cM (.int 1)))) (binM mulD (binM ixD (varM 2) (cM (.int 0))) (binM ixD (varM 1) (cM (.int 1)))))))
    (seqS (setS 4 (andM (binM geD (binM mulD (binM ixD (varM 0) (cM (.int 0))) (binM ixD (varM 1) (cM (.int 1)))) (binM mulD (binM ixD (varM 1) (cM (.int 0))) (binM ixD (varM 0) (cM (.int 1))))) (binM geD (binM mulD (binM ixD (varM 1) (cM (.int 0))) (binM ixD (varM 2) (cM (.int 1)))) (binM mulD (binM ixD (varM 2) (cM (.int 0))) (binM ixD (varM 1) (cM (.int 1)))))))
    (retS (orM (varM 3) (varM 4)))))
noncomputable def F__law_between : List D → M D := fnM 5 m__law_between
noncomputable def m_is_less : PL.Env → M Out :=
    (retS (binM ltD (binM mulD (binM ixD (varM 0) (cM (.int 0))) (binM ixD (varM 1) (cM (.int 1)))) (binM mulD (binM ixD (varM 1) (cM (.int 0))) (binM ixD (varM 0) (cM (.int 1))))))
noncomputable def F_is_less : List D → M D := fnM 2 m_is_less
noncomputable def m__is_between : PL.Env → M Out :=
    (seqS (ifS (truM (callM (lenM 2 F_is_less) (consA (varM 0) (consA (varM 1) nilA)))) (retS (notM (callM (lenM 2 F_is_less) (consA (varM 0) (consA (varM 2) nilA))))) nxS)
    (retS (orM (notM (callM (lenM 2 F_is_less) (consA (varM 1) (consA (varM 0) nilA)))) (notM (callM (lenM 2 F_is_less) (consA (varM 2) (consA (varM 0) nilA)))))))
noncomputable def F__is_between : List D → M D := fnM 3 m__is_between
noncomputable def m_on_segment : PL.Env → M Out :=
    (retS (andM (binM eqD (callM (lenM 3 F_turn) (consA (varM 1) (consA (varM 2) (consA (varM 0) nilA)))) (cM (.int 0))) (andM (callM (lenM 3 F__is_between) (consA (binM ixD (varM 0) (cM (.int 0))) (consA (binM ixD (varM 1) (cM (.int 0))) (consA (binM ixD (varM 2) (cM (.int 0))) nilA)))) (callM (lenM 3 F__is_between) (consA (binM ixD (varM 0) (cM (.int 1))) (consA (binM ixD (varM 1) (cM (.int 1))) (consA (binM ixD (varM 2) (cM (.int 1))) nilA)))))))
noncomputable def F_on_segment : List D → M D := fnM 3 m_on_segment
noncomputable def m_is_whole : PL.Env → M Out :=
    (seqS (ifS (orT (notT (truM (unM (isiD "int") (varM 0)))) (truM (unM (isiD "bool") (varM 0)))) (retS (cM (.bl false))) nxS)
    (retS (chainM leD leD (varM 1) (varM 0) (varM 2))))
noncomputable def F_is_whole : List D → M D := fnM 3 m_is_whole
noncomputable def m_is_corner_from : PL.Env → M Out :=
    (seqS (ifS (orT (notT (truM (unM (isiD "tuple") (varM 0)))) (tB (binM neD (callM (fun1 lenD) (consA (varM 0) nilA)) (cM (.int 2))))) (retS (cM (.bl false))) nxS)
    (retS (andM (callM (lenM 3 F_is_whole) (consA (binM ixD (varM 0) (cM (.int 0))) (consA (varM 1) (consA (varM 2) nilA)))) (callM (lenM 3 F_is_whole) (consA (binM ixD (varM 0) (cM (.int 1))) (consA (varM 1) (consA (varM 2) nilA)))))))
noncomputable def F_is_corner_from : List D → M D := fnM 3 m_is_corner_from
noncomputable def m_is_corner : PL.Env → M Out :=
    (retS (callM (lenM 3 F_is_corner_from) (consA (varM 0) (consA (unM negD (cM (.int 10000))) (consA (cM (.int 10000)) nilA)))))
noncomputable def F_is_corner : List D → M D := fnM 1 m_is_corner
noncomputable def m_point : PL.Env → M Out :=
    (seqS (asgS (varM 0) (gTupM 2 (gConsM (gNm 1) (gConsM (gNm 2) gNilM))))
    (retS (tupM (consA (tupM (consA (varM 1) (consA (cM (.int 1)) nilA))) (consA (tupM (consA (varM 2) (consA (cM (.int 1)) nilA))) nilA)))))
noncomputable def F_point : List D → M D := fnM 3 m_point
noncomputable def m_is_name : PL.Env → M Out :=
    (seqS (ifS (orT (notT (truM (unM (isiD "str") (varM 0)))) (notT (tB (chainM leD leD (cM (.int 1)) (callM (fun1 lenD) (consA (varM 0) nilA)) (cM (.int 12)))))) (retS (cM (.bl false))) nxS)
    (retS (callM (fun1 allD) (consA (compM (srcM (varM 0)) (gNm 1) yesT (chainM leD leD (cM (.str "a")) (varM 1) (cM (.str "z"))) [1]) nilA))))
noncomputable def F_is_name : List D → M D := fnM 2 m_is_name
noncomputable def m_law : PL.Env → M Out :=
    (seqS (setS 1 (callM (lenM 1 F__law_pot) (consA (varM 0) nilA)))
    (seqS (forS (srcA rng1D (consA (cM (.int 4)) nilA)) (gNm 2) (seqS (setS 5 (tupM (consA (callM (lenM 1 F__law_number) (consA (varM 1) nilA)) (consA (callM (lenM 1 F__law_number) (consA (varM 1) nilA)) nilA))))
    (seqS (setS 6 (binM ixD (lstM (consA (varM 5) (consA (tupM (consA (callM (lenM 1 F__law_number) (consA (varM 1) nilA)) (consA (callM (lenM 1 F__law_number) (consA (varM 1) nilA)) nilA))) nilA))) (callM (fun1 intD) (consA (binM gtD (callM (lenM 2 F__law_next) (consA (varM 1) (consA (cM (.int 5)) nilA))) (cM (.int 0))) nilA))))
    (seqS (setS 7 (tupM (consA (callM (lenM 1 F__law_number) (consA (varM 1) nilA)) (consA (callM (lenM 1 F__law_number) (consA (varM 1) nilA)) nilA))))
    (seqS (setS 8 (binM subD (callM (lenM 2 F__law_next) (consA (varM 1) (consA (cM (.int 7)) nilA))) (cM (.int 2))))
    (seqS (ifS (tB (binM eqD (callM (lenM 2 F__law_next) (consA (varM 1) (consA (cM (.int 2)) nilA))) (cM (.int 1)))) (setS 7 (callM (fun1 tupleD) (consA (compM (srcA rng1D (consA (cM (.int 2)) nilA)) (gNm 11) yesT (callM (lenM 2 F__law_low) (consA (binM addD (binM mulD (binM mulD (binM ixD (binM ixD (varM 5) (varM 11)) (cM (.int 0))) (binM ixD (binM ixD (varM 6) (varM 11)) (cM (.int 1)))) (binM subD (cM (.int 4)) (varM 8))) (binM mulD (binM mulD (binM ixD (binM ixD (varM 6) (varM 11)) (cM (.int 0))) (binM ixD (binM ixD (varM 5) (varM 11)) (cM (.int 1)))) (varM 8))) (consA (binM mulD (binM mulD (cM (.int 4)) (binM ixD (binM ixD (varM 5) (varM 11)) (cM (.int 1)))) (binM ixD (binM ixD (varM 6) (varM 11)) (cM (.int 1)))) nilA))) [11]) nilA))) nxS)
    (seqS (ifS (notT (truM (callM (lenM 2 (FF__law_same 3)) (consA (callM (lenM 3 F_turn) (consA (varM 5) (consA (varM 6) (consA (varM 7) nilA)))) (consA (callM (lenM 3 F__law_cross) (consA (varM 5) (consA (varM 6) (consA (varM 7) nilA)))) nilA))))) (retS (cM (.bl false))) nxS)
    (seqS (setS 9 (andM (binM eqD (callM (lenM 3 F__law_cross) (consA (varM 5) (consA (varM 6) (consA (varM 7) nilA)))) (cM (.int 0))) (callM (fun1 allD) (consA (compM (srcA rng1D (consA (cM (.int 2)) nilA)) (gNm 11) yesT (callM (lenM 3 F__law_between) (consA (binM ixD (varM 5) (varM 11)) (consA (binM ixD (varM 7) (varM 11)) (consA (binM ixD (varM 6) (varM 11)) nilA)))) [11]) nilA))))
    (ifS (notT (truM (callM (lenM 2 (FF__law_same 3)) (consA (callM (lenM 3 F_on_segment) (consA (varM 7) (consA (varM 5) (consA (varM 6) nilA)))) (consA (varM 9) nilA))))) (retS (cM (.bl false))) nxS)))))))))
    (seqS (setS 3 (binM subD (callM (lenM 2 F__law_next) (consA (varM 1) (consA (cM (.int 20001)) nilA))) (cM (.int 10000))))
    (seqS (ifS (orT (tB (binM notbD (callM (lenM 1 F_is_corner) (consA (tupM (consA (varM 3) (consA (unM negD (varM 3)) nilA))) nilA)) (cM (.bl true)))) (tB (binM neD (callM (lenM 1 F_point) (consA (tupM (consA (varM 3) (consA (cM (.int 5)) nilA))) nilA)) (tupM (consA (tupM (consA (varM 3) (consA (cM (.int 1)) nilA))) (consA (tupM (consA (cM (.int 5)) (consA (cM (.int 1)) nilA))) nilA)))))) (retS (cM (.bl false))) nxS)
    (seqS (setS 4 (lstM (consA (tupM (consA (cM (.int 10001)) (consA (cM (.int 0)) nilA))) (consA (tupM (consA (cM (.int 0)) (consA (unM negD (cM (.int 10001))) nilA))) (consA (tupM (consA (cM (.int 0)) nilA)) (consA (tupM (consA (cM (.int 0)) (consA (cM (.int 0)) (consA (cM (.int 0)) nilA)))) (consA (lstM (consA (cM (.int 0)) (consA (cM (.int 0)) nilA))) (consA (tupM (consA (cM (.bl true)) (consA (cM (.int 0)) nilA))) (consA (tupM (consA (cM (.int 0)) (consA (cM (.str "0")) nilA))) (consA (cM .non) (consA (cM (.int 5)) nilA)))))))))))
    (seqS (ifS (orT (truM (callM (fun1 anyD) (consA (compM (srcM (varM 4)) (gNm 10) yesT (callM (lenM 1 F_is_corner) (consA (varM 10) nilA)) [10]) nilA))) (notT (truM (callM (lenM 1 F_is_name) (consA (cM (.str "abcdefghijkl")) nilA))))) (retS (cM (.bl false))) nxS)
    (retS (notM (callM (fun1 anyD) (consA (compM (srcM (lstM (consA (cM (.str "")) (consA (cM (.str "abcdefghijklm")) (consA (cM (.str "A")) (consA (cM (.str "a1")) (consA (cM (.str "a b")) (consA (cM (.int 5)) (consA (cM .non) (consA (tupM (consA (cM (.str "a")) nilA)) nilA)))))))))) (gNm 10) yesT (callM (lenM 1 F_is_name) (consA (varM 10) nilA)) [10]) nilA))))))))))
noncomputable def F_law : List D → M D := fnM 12 m_law

/-! the law's draws -/
/-- the draws' state: the script's copy at q, the next place, what is left of a great number, the seed -/
structure PotAt (s : S) (p q : Nat) : Prop where
  ok : ∃ (ns : List Int) (i : Nat) (big seed : Int), s[p]? = some (.lst [.ptr q, .int (i : Int), .int big, .int seed]) ∧ s[q]? = some (.lst (ns.map D.int)) ∧ 0 ≤ big ∧ 0 ≤ seed ∧ seed < 2147483647
  ne : p ≠ q
theorem PotAt.more {s g : S} {p q : Nat} (h : PotAt s p q) : PotAt (s ++ g) p q := by
  obtain ⟨⟨ns, i, big, seed, h1, h2, h3⟩, ne⟩ := h
  exact ⟨⟨ns, i, big, seed, old_at h1, old_at h2, h3⟩, ne⟩
theorem set_at {s : S} {p : Nat} {c c' : Cell} (h : s[p]? = some c) : (s.set p c')[p]? = some c' := List.getElem?_set_self (List.getElem?_eq_some_iff.mp h).1
theorem set_ne {s : S} {p q : Nat} {c' : Cell} (h : p ≠ q) : (s.set p c')[q]? = s[q]? := List.getElem?_set_ne h
theorem set_set {s : S} {p : Nat} {c c' : Cell} : (s.set p c).set p c' = s.set p c' := List.set_set ..
theorem run_pot (ns : List Int) (h63 : ns.length ≤ 63) : ∃ s', F__law_pot [.flst (ns.map D.int)] [] = .ok (.ptr 1) s' ∧ PotAt s' 1 0 ∧ s'.length = 2 := by
  have loop : ∃ (env' : PL.Env) (s' : S), loopM ⟨ns.map D.int, none⟩ (gNm 2) (setS 1 (binM modD (callM (fun1 intD) (consA (binM addD (binM mulD (varM 1) (cM (.int 31))) (varM 2)) nilA)) (cM (.int 2147483647)))) (ns.map D.int) [some (.flst (ns.map D.int)), some (.int 1), none] [] = .ok (.nx env') s' ∧ (∃ (seed : Int) (x : Option D), env' = [some (.flst (ns.map D.int)), some (.int seed), x] ∧ s' = [] ∧ 0 ≤ seed ∧ seed < 2147483647) := by
    refine loop_all (r := ⟨ns.map D.int, none⟩) (fun _ env s => ∃ (seed : Int) (x : Option D), env = [some (.flst (ns.map D.int)), some (.int seed), x] ∧ s = [] ∧ 0 ≤ seed ∧ seed < 2147483647) (fun _ _ _ _ => trivial) ?_ _ 0 _ _ rfl (Nat.zero_le _) ⟨1, none, rfl, rfl, by decide, by decide⟩
    rintro i d env s hd ⟨seed, x, rfl, rfl, h0, h1⟩
    rw [List.getElem?_map] at hd
    cases hn : ns[i]? with
    | none => rw [hn] at hd; cases hd
    | some z =>
      rw [hn] at hd
      cases hd
      have hm : MulOk seed 31 := mulOk_r (by decide) (by decide)
      refine ⟨_, _, ?_, (seed * 31 + z) % 2147483647, some (.int z), rfl, rfl, Int.emod_nonneg _ (by decide), Int.emod_lt_of_pos _ (by decide)⟩
      simp only [fnM_run, startE, seqS_run, setS_run, dropS_run, retS_run, nxS_run, ifS_run, asgS_run, parS_run, forS_run, gNm_run, gNilM_run, gConsM_run, gTup2, gTup3, gSubM_run, seqK_nx, seqK_rt, seqK_bk, seqK_ct, outM_rt, outM_nx, lenM0, lenM1, lenM2, lenM3, lenM4, lenM5, callM_run, consA_run, nilA_run, tupM_run, lstM_run, tupK_1, tupK_2, tupK_3, tupK_4, binM_run, unM_run, tB_run, bB_bl, chainM_run, chK_t, chK_f, truM_run, andM_run, orM_run, notM_run, andT_run, orT_run, notT_run, ifM_run, cM_run, varM_run, varK_ok, yesT_run, addD_int, subD_int, negD_int, ltD_int, leD_int, gtD_int, geD_int, eqD_int, eqD_bl, eqD_str, neD_int, neD_bl, isnD_non, isnD_int, isnD_bl, isnD_str, isnD_tup, isnD_ptr, isbD_bl, notbD_bl, truD_bl, and_bl, or_bl, and_tt, or_tt, fun1_run, fun2_run, intD_int, intD_bl, absD_int, gcdD_int, lenD_tup, ixS_int, ixD_tup, ixD_flst, atK_some, at0, at1, at2, at3, on_ok, srcM_run, srcA_run, srcD_str, srcD_tup, srcD_flst, guard_none, List.map_cons, List.map_nil, List.length_cons, List.length_nil, Nat.reduceAdd, Nat.reduceSub, Nat.sub_self, List.replicate_succ, List.replicate_zero, List.append_nil, List.nil_append, List.cons_append, List.getElem?_cons_zero, List.getElem?_cons_succ, List.set_cons_zero, List.set_cons_succ, if_true, Bool.not_true, Bool.not_false, Bool.false_eq_true, if_false, Bool.true_and, Bool.false_and, Bool.and_true, Bool.and_false, Bool.true_or, Bool.false_or, Bool.or_true, Bool.or_false, mulD_int hm, modD_pos (show (0 : Int) < 2147483647 by decide)]
  obtain ⟨env', s', e1, seed, x, rfl, rfl, h0, h1⟩ := loop
  refine ⟨[.lst (ns.map D.int), .lst [.ptr 0, .int ((0 : Nat) : Int), .int 0, .int seed]], ?_, ⟨⟨ns, 0, 0, seed, rfl, rfl, by decide, h0, h1⟩, by decide⟩, rfl⟩
  unfold F__law_pot m__law_pot
  simp only [fnM_run, startE, seqS_run, setS_run, dropS_run, retS_run, nxS_run, ifS_run, asgS_run, parS_run, forS_run, gNm_run, gNilM_run, gConsM_run, gTup2, gTup3, gSubM_run, seqK_nx, seqK_rt, seqK_bk, seqK_ct, outM_rt, outM_nx, lenM0, lenM1, lenM2, lenM3, lenM4, lenM5, callM_run, consA_run, nilA_run, tupM_run, lstM_run, tupK_1, tupK_2, tupK_3, tupK_4, binM_run, unM_run, tB_run, bB_bl, chainM_run, chK_t, chK_f, truM_run, andM_run, orM_run, notM_run, andT_run, orT_run, notT_run, ifM_run, cM_run, varM_run, varK_ok, yesT_run, addD_int, subD_int, negD_int, ltD_int, leD_int, gtD_int, geD_int, eqD_int, eqD_bl, eqD_str, neD_int, neD_bl, isnD_non, isnD_int, isnD_bl, isnD_str, isnD_tup, isnD_ptr, isbD_bl, notbD_bl, truD_bl, and_bl, or_bl, and_tt, or_tt, fun1_run, fun2_run, intD_int, intD_bl, absD_int, gcdD_int, lenD_tup, ixS_int, ixD_tup, ixD_flst, atK_some, at0, at1, at2, at3, on_ok, srcM_run, srcA_run, srcD_str, srcD_tup, srcD_flst, guard_none, List.map_cons, List.map_nil, List.length_cons, List.length_nil, Nat.reduceAdd, Nat.reduceSub, Nat.sub_self, List.replicate_succ, List.replicate_zero, List.append_nil, List.nil_append, List.cons_append, List.getElem?_cons_zero, List.getElem?_cons_succ, List.set_cons_zero, List.set_cons_succ, if_true, Bool.not_true, Bool.not_false, Bool.false_eq_true, if_false, Bool.true_and, Bool.false_and, Bool.and_true, Bool.and_false, Bool.true_or, Bool.false_or, Bool.or_true, Bool.or_false, e1]
  rfl
theorem run_next {s : S} {p q : Nat} {l : Int} (h : PotAt s p q) (hl : 0 < l) (hb : Bt 9000 l) : ∃ v c', F__law_next [.ptr p, .int l] s = .ok (.int v) (s.set p c') ∧ 0 ≤ v ∧ v < l ∧ PotAt (s.set p c') p q := by
  obtain ⟨⟨ns, i, big, seed, hp, hq, hbig, hs0, hs1⟩, ne⟩ := h
  have e10 : powD (.int 10) (.int 18) = (fun s => .ok (.int 1000000000000000000) s : M D) := by
    funext s
    rw [powD_ok (by decide)]
    rfl
  have hm : ∀ (a : Int), 0 ≤ a → a < 2147483647 → ∀ b : Int, MulOk a b := fun a h0 h1 b => mulOk_l (by omega) (by omega)
  have setI : ∀ {s : S} {ds : List D} {j : Nat} {v : D} {k : Int}, s[p]? = some (.lst ds) → k = (j : Int) → j < ds.length → setLD (.ptr p) (.int k) v s = .ok () (s.set p (.lst (ds.set j v))) := fun e hk hj => by
    subst hk
    exact setLD_nat e hj _
  have modp : ∀ (a : Int) (s : S), modD (.int a) (.int l) s = .ok (.int (a % l)) s := fun a s => modD_pos hl
  by_cases h1 : big = 0
  · subst h1
    by_cases h2 : (i : Int) < (ns.length : Int)
    · have hi : i < ns.length := by omega
      have hat : atI (ns.map D.int) (i : Int) = some (.int ns[i]) := PL.atI_nat (by rw [List.getElem?_map, List.getElem?_eq_getElem hi]; rfl)
      obtain ⟨z, ez⟩ : ∃ z : Int, z = if ns[i] < 0 then -ns[i] else ns[i] := ⟨_, rfl⟩
      have hz : 0 ≤ z := by rw [ez]; split <;> omega
      have hp1 : (s.set p (Cell.lst [D.ptr q, D.int ((i : Int) + 1), D.int 0, D.int seed]))[p]? = some (Cell.lst [D.ptr q, D.int ((i : Int) + 1), D.int 0, D.int seed]) := set_at hp
      have hq1 : (s.set p (Cell.lst [D.ptr q, D.int ((i : Int) + 1), D.int 0, D.int seed]))[q]? = some (.lst (ns.map D.int)) := by rw [set_ne ne]; exact hq
      by_cases h3 : z < 1000000000000000000
      · refine ⟨z % l, (Cell.lst [D.ptr q, D.int ((i : Int) + 1), D.int 0, D.int seed]), ?_, Int.emod_nonneg _ (by omega), Int.emod_lt_of_pos _ hl, ⟨⟨ns, i + 1, 0, seed, hp1, hq1, by decide, hs0, hs1⟩, ne⟩⟩
        unfold F__law_next m__law_next
        simp only [fnM_run, startE, seqS_run, setS_run, dropS_run, retS_run, nxS_run, ifS_run, asgS_run, parS_run, forS_run, gNm_run, gNilM_run, gConsM_run, gTup2, gTup3, gSubM_run, seqK_nx, seqK_rt, seqK_bk, seqK_ct, outM_rt, outM_nx, lenM0, lenM1, lenM2, lenM3, lenM4, lenM5, callM_run, consA_run, nilA_run, tupM_run, lstM_run, tupK_1, tupK_2, tupK_3, tupK_4, binM_run, unM_run, tB_run, bB_bl, chainM_run, chK_t, chK_f, truM_run, andM_run, orM_run, notM_run, andT_run, orT_run, notT_run, ifM_run, cM_run, varM_run, varK_ok, yesT_run, addD_int, subD_int, negD_int, ltD_int, leD_int, gtD_int, geD_int, eqD_int, eqD_bl, eqD_str, neD_int, neD_bl, isnD_non, isnD_int, isnD_bl, isnD_str, isnD_tup, isnD_ptr, isbD_bl, notbD_bl, truD_bl, and_bl, or_bl, and_tt, or_tt, fun1_run, fun2_run, intD_int, intD_bl, absD_int, gcdD_int, lenD_tup, ixS_int, ixD_tup, ixD_flst, atK_some, at0, at1, at2, at3, on_ok, srcM_run, srcA_run, srcD_str, srcD_tup, srcD_flst, guard_none, List.map_cons, List.map_nil, List.length_cons, List.length_nil, Nat.reduceAdd, Nat.reduceSub, Nat.sub_self, List.replicate_succ, List.replicate_zero, List.append_nil, List.nil_append, List.cons_append, List.getElem?_cons_zero, List.getElem?_cons_succ, List.set_cons_zero, List.set_cons_succ, if_true, Bool.not_true, Bool.not_false, Bool.false_eq_true, if_false, Bool.true_and, Bool.false_and, Bool.and_true, Bool.and_false, Bool.true_or, Bool.false_or, Bool.or_true, Bool.or_false, ixD_lst hp, ixD_lst hq, lenD_lst hq, h2, decide_true, List.length_map, hat, setI hp (show (1 : Int) = ((1 : Nat) : Int) from rfl) (show 1 < 4 by decide), e10, ← ez, h3, modp]
      · have hp2 : (s.set p (Cell.lst [D.ptr q, D.int ((i : Int) + 1), D.int z, D.int seed]))[p]? = some (Cell.lst [D.ptr q, D.int ((i : Int) + 1), D.int z, D.int seed]) := set_at hp
        have hzp : 0 < z := by omega
        refine ⟨z % l, (Cell.lst [D.ptr q, D.int ((i : Int) + 1), D.int (z / l), D.int seed]), ?_, Int.emod_nonneg _ (by omega), Int.emod_lt_of_pos _ hl, ⟨⟨ns, i + 1, z / l, seed, set_at hp, by rw [set_ne ne]; exact hq, Int.ediv_nonneg hz (by omega), hs0, hs1⟩, ne⟩⟩
        unfold F__law_next m__law_next
        simp only [fnM_run, startE, seqS_run, setS_run, dropS_run, retS_run, nxS_run, ifS_run, asgS_run, parS_run, forS_run, gNm_run, gNilM_run, gConsM_run, gTup2, gTup3, gSubM_run, seqK_nx, seqK_rt, seqK_bk, seqK_ct, outM_rt, outM_nx, lenM0, lenM1, lenM2, lenM3, lenM4, lenM5, callM_run, consA_run, nilA_run, tupM_run, lstM_run, tupK_1, tupK_2, tupK_3, tupK_4, binM_run, unM_run, tB_run, bB_bl, chainM_run, chK_t, chK_f, truM_run, andM_run, orM_run, notM_run, andT_run, orT_run, notT_run, ifM_run, cM_run, varM_run, varK_ok, yesT_run, addD_int, subD_int, negD_int, ltD_int, leD_int, gtD_int, geD_int, eqD_int, eqD_bl, eqD_str, neD_int, neD_bl, isnD_non, isnD_int, isnD_bl, isnD_str, isnD_tup, isnD_ptr, isbD_bl, notbD_bl, truD_bl, and_bl, or_bl, and_tt, or_tt, fun1_run, fun2_run, intD_int, intD_bl, absD_int, gcdD_int, lenD_tup, ixS_int, ixD_tup, ixD_flst, atK_some, at0, at1, at2, at3, on_ok, srcM_run, srcA_run, srcD_str, srcD_tup, srcD_flst, guard_none, List.map_cons, List.map_nil, List.length_cons, List.length_nil, Nat.reduceAdd, Nat.reduceSub, Nat.sub_self, List.replicate_succ, List.replicate_zero, List.append_nil, List.nil_append, List.cons_append, List.getElem?_cons_zero, List.getElem?_cons_succ, List.set_cons_zero, List.set_cons_succ, if_true, Bool.not_true, Bool.not_false, Bool.false_eq_true, if_false, Bool.true_and, Bool.false_and, Bool.and_true, Bool.and_false, Bool.true_or, Bool.false_or, Bool.or_true, Bool.or_false, ixD_lst hp, ixD_lst hq, lenD_lst hq, h2, decide_true, decide_false, List.length_map, hat, setI hp (show (1 : Int) = ((1 : Nat) : Int) from rfl) (show 1 < 4 by decide), e10, ← ez, h3, setI hp1 (show (2 : Int) = ((2 : Nat) : Int) from rfl) (show 2 < 4 by decide), set_set, ixD_lst hp2, setI hp2 (show (2 : Int) = ((2 : Nat) : Int) from rfl) (show 2 < 4 by decide), hzp, modp, fdivD_pos hl hb]
    · have hm1 : MulOk seed 48271 := hm seed hs0 hs1 _
      obtain ⟨sd, es⟩ : ∃ x : Int, x = (seed * 48271 + 12345) % 2147483647 := ⟨_, rfl⟩
      have hd0 : 0 ≤ sd := by rw [es]; exact Int.emod_nonneg _ (by decide)
      have hd1 : sd < 2147483647 := by rw [es]; exact Int.emod_lt_of_pos _ (by decide)
      have hp1 : (s.set p (Cell.lst [D.ptr q, D.int (i : Int), D.int 0, D.int sd]))[p]? = some (Cell.lst [D.ptr q, D.int (i : Int), D.int 0, D.int sd]) := set_at hp
      have h127 : Bt 9000 127 := Bt.mono (m := 7) (show (127 : Nat) < 2 ^ 7 by decide) (by decide)
      refine ⟨((sd * 69621 + sd / 127) % 2147483629) % l, (Cell.lst [D.ptr q, D.int (i : Int), D.int 0, D.int sd]), ?_, Int.emod_nonneg _ (by omega), Int.emod_lt_of_pos _ hl, ⟨⟨ns, i, 0, sd, hp1, by rw [set_ne ne]; exact hq, by decide, hd0, hd1⟩, ne⟩⟩
      unfold F__law_next m__law_next
      simp only [fnM_run, startE, seqS_run, setS_run, dropS_run, retS_run, nxS_run, ifS_run, asgS_run, parS_run, forS_run, gNm_run, gNilM_run, gConsM_run, gTup2, gTup3, gSubM_run, seqK_nx, seqK_rt, seqK_bk, seqK_ct, outM_rt, outM_nx, lenM0, lenM1, lenM2, lenM3, lenM4, lenM5, callM_run, consA_run, nilA_run, tupM_run, lstM_run, tupK_1, tupK_2, tupK_3, tupK_4, binM_run, unM_run, tB_run, bB_bl, chainM_run, chK_t, chK_f, truM_run, andM_run, orM_run, notM_run, andT_run, orT_run, notT_run, ifM_run, cM_run, varM_run, varK_ok, yesT_run, addD_int, subD_int, negD_int, ltD_int, leD_int, gtD_int, geD_int, eqD_int, eqD_bl, eqD_str, neD_int, neD_bl, isnD_non, isnD_int, isnD_bl, isnD_str, isnD_tup, isnD_ptr, isbD_bl, notbD_bl, truD_bl, and_bl, or_bl, and_tt, or_tt, fun1_run, fun2_run, intD_int, intD_bl, absD_int, gcdD_int, lenD_tup, ixS_int, ixD_tup, ixD_flst, atK_some, at0, at1, at2, at3, on_ok, srcM_run, srcA_run, srcD_str, srcD_tup, srcD_flst, guard_none, List.map_cons, List.map_nil, List.length_cons, List.length_nil, Nat.reduceAdd, Nat.reduceSub, Nat.sub_self, List.replicate_succ, List.replicate_zero, List.append_nil, List.nil_append, List.cons_append, List.getElem?_cons_zero, List.getElem?_cons_succ, List.set_cons_zero, List.set_cons_succ, if_true, Bool.not_true, Bool.not_false, Bool.false_eq_true, if_false, Bool.true_and, Bool.false_and, Bool.and_true, Bool.and_false, Bool.true_or, Bool.false_or, Bool.or_true, Bool.or_false, ixD_lst hp, ixD_lst hq, lenD_lst hq, h2, decide_true, decide_false, List.length_map, show decide ((0 : Int) < 0) = false from rfl, mulD_int hm1, modD_pos (show (0 : Int) < 2147483647 by decide), setI hp (show (3 : Int) = ((3 : Nat) : Int) from rfl) (show 3 < 4 by decide), ← es, ixD_lst hp1, mulD_int (hm sd hd0 hd1 _), fdivD_pos (show (0 : Int) < 127 by decide) h127, modD_pos (show (0 : Int) < 2147483629 by decide), modp]
  · have hbp : 0 < big := by omega
    refine ⟨big % l, .lst [.ptr q, .int (i : Int), .int (big / l), .int seed], ?_, Int.emod_nonneg _ (by omega), Int.emod_lt_of_pos _ hl, ⟨⟨ns, i, big / l, seed, set_at hp, by rw [set_ne ne]; exact hq, Int.ediv_nonneg hbig (by omega), hs0, hs1⟩, ne⟩⟩
    unfold F__law_next m__law_next
    simp only [fnM_run, startE, seqS_run, setS_run, dropS_run, retS_run, nxS_run, ifS_run, asgS_run, parS_run, forS_run, gNm_run, gNilM_run, gConsM_run, gTup2, gTup3, gSubM_run, seqK_nx, seqK_rt, seqK_bk, seqK_ct, outM_rt, outM_nx, lenM0, lenM1, lenM2, lenM3, lenM4, lenM5, callM_run, consA_run, nilA_run, tupM_run, lstM_run, tupK_1, tupK_2, tupK_3, tupK_4, binM_run, unM_run, tB_run, bB_bl, chainM_run, chK_t, chK_f, truM_run, andM_run, orM_run, notM_run, andT_run, orT_run, notT_run, ifM_run, cM_run, varM_run, varK_ok, yesT_run, addD_int, subD_int, negD_int, ltD_int, leD_int, gtD_int, geD_int, eqD_int, eqD_bl, eqD_str, neD_int, neD_bl, isnD_non, isnD_int, isnD_bl, isnD_str, isnD_tup, isnD_ptr, isbD_bl, notbD_bl, truD_bl, and_bl, or_bl, and_tt, or_tt, fun1_run, fun2_run, intD_int, intD_bl, absD_int, gcdD_int, lenD_tup, ixS_int, ixD_tup, ixD_flst, atK_some, at0, at1, at2, at3, on_ok, srcM_run, srcA_run, srcD_str, srcD_tup, srcD_flst, guard_none, List.map_cons, List.map_nil, List.length_cons, List.length_nil, Nat.reduceAdd, Nat.reduceSub, Nat.sub_self, List.replicate_succ, List.replicate_zero, List.append_nil, List.nil_append, List.cons_append, List.getElem?_cons_zero, List.getElem?_cons_succ, List.set_cons_zero, List.set_cons_succ, if_true, Bool.not_true, Bool.not_false, Bool.false_eq_true, if_false, Bool.true_and, Bool.false_and, Bool.and_true, Bool.and_false, Bool.true_or, Bool.false_or, Bool.or_true, Bool.or_false, ixD_lst hp, h1, hbp, decide_true, decide_false, modp, fdivD_pos hl hb, setI hp (show (2 : Int) = ((2 : Nat) : Int) from rfl) (show 2 < 4 by decide)]

/-! the law's own small defs -/
theorem run_is_int {i : Int} {s : S} : F__law_is_int [.int i] s = .ok (.bl true) s := by
  unfold F__law_is_int m__law_is_int
  simp only [fnM_run, startE, seqS_run, setS_run, dropS_run, retS_run, nxS_run, ifS_run, asgS_run, parS_run, forS_run, gNm_run, gNilM_run, gConsM_run, gTup2, gTup3, gSubM_run, seqK_nx, seqK_rt, seqK_bk, seqK_ct, outM_rt, outM_nx, lenM0, lenM1, lenM2, lenM3, lenM4, lenM5, callM_run, consA_run, nilA_run, tupM_run, lstM_run, tupK_1, tupK_2, tupK_3, tupK_4, binM_run, unM_run, tB_run, bB_bl, chainM_run, chK_t, chK_f, truM_run, andM_run, orM_run, notM_run, andT_run, orT_run, notT_run, ifM_run, cM_run, varM_run, varK_ok, yesT_run, addD_int, subD_int, negD_int, ltD_int, leD_int, gtD_int, geD_int, eqD_int, eqD_bl, eqD_str, neD_int, neD_bl, isnD_non, isnD_int, isnD_bl, isnD_str, isnD_tup, isnD_ptr, isbD_bl, notbD_bl, truD_bl, and_bl, or_bl, and_tt, or_tt, fun1_run, fun2_run, intD_int, intD_bl, absD_int, gcdD_int, lenD_tup, ixS_int, ixD_tup, ixD_flst, atK_some, at0, at1, at2, at3, on_ok, srcM_run, srcA_run, srcD_str, srcD_tup, srcD_flst, guard_none, List.map_cons, List.map_nil, List.length_cons, List.length_nil, Nat.reduceAdd, Nat.reduceSub, Nat.sub_self, List.replicate_succ, List.replicate_zero, List.append_nil, List.nil_append, List.cons_append, List.getElem?_cons_zero, List.getElem?_cons_succ, List.set_cons_zero, List.set_cons_succ, if_true, Bool.not_true, Bool.not_false, Bool.false_eq_true, if_false, Bool.true_and, Bool.false_and, Bool.and_true, Bool.and_false, Bool.true_or, Bool.false_or, Bool.or_true, Bool.or_false, isi_ii, isi_ib]
theorem run_same_bl {x y : Bool} {j : Nat} {s : S} : FF__law_same (j + 1) [.bl x, .bl y] s = .ok (.bl (decide (x = y))) s := by
  unfold FF__law_same m__law_same
  simp only [fnM_run, startE, seqS_run, setS_run, dropS_run, retS_run, nxS_run, ifS_run, asgS_run, parS_run, forS_run, gNm_run, gNilM_run, gConsM_run, gTup2, gTup3, gSubM_run, seqK_nx, seqK_rt, seqK_bk, seqK_ct, outM_rt, outM_nx, lenM0, lenM1, lenM2, lenM3, lenM4, lenM5, callM_run, consA_run, nilA_run, tupM_run, lstM_run, tupK_1, tupK_2, tupK_3, tupK_4, binM_run, unM_run, tB_run, bB_bl, chainM_run, chK_t, chK_f, truM_run, andM_run, orM_run, notM_run, andT_run, orT_run, notT_run, ifM_run, cM_run, varM_run, varK_ok, yesT_run, addD_int, subD_int, negD_int, ltD_int, leD_int, gtD_int, geD_int, eqD_int, eqD_bl, eqD_str, neD_int, neD_bl, isnD_non, isnD_int, isnD_bl, isnD_str, isnD_tup, isnD_ptr, isbD_bl, notbD_bl, truD_bl, and_bl, or_bl, and_tt, or_tt, fun1_run, fun2_run, intD_int, intD_bl, absD_int, gcdD_int, lenD_tup, ixS_int, ixD_tup, ixD_flst, atK_some, at0, at1, at2, at3, on_ok, srcM_run, srcA_run, srcD_str, srcD_tup, srcD_flst, guard_none, List.map_cons, List.map_nil, List.length_cons, List.length_nil, Nat.reduceAdd, Nat.reduceSub, Nat.sub_self, List.replicate_succ, List.replicate_zero, List.append_nil, List.nil_append, List.cons_append, List.getElem?_cons_zero, List.getElem?_cons_succ, List.set_cons_zero, List.set_cons_succ, if_true, Bool.not_true, Bool.not_false, Bool.false_eq_true, if_false, Bool.true_and, Bool.false_and, Bool.and_true, Bool.and_false, Bool.true_or, Bool.false_or, Bool.or_true, Bool.or_false, isi_bb]
theorem run_same_int {x y : Int} {j : Nat} {s : S} : FF__law_same (j + 1) [.int x, .int y] s = .ok (.bl (decide (x = y))) s := by
  unfold FF__law_same m__law_same
  simp only [fnM_run, startE, seqS_run, setS_run, dropS_run, retS_run, nxS_run, ifS_run, asgS_run, parS_run, forS_run, gNm_run, gNilM_run, gConsM_run, gTup2, gTup3, gSubM_run, seqK_nx, seqK_rt, seqK_bk, seqK_ct, outM_rt, outM_nx, lenM0, lenM1, lenM2, lenM3, lenM4, lenM5, callM_run, consA_run, nilA_run, tupM_run, lstM_run, tupK_1, tupK_2, tupK_3, tupK_4, binM_run, unM_run, tB_run, bB_bl, chainM_run, chK_t, chK_f, truM_run, andM_run, orM_run, notM_run, andT_run, orT_run, notT_run, ifM_run, cM_run, varM_run, varK_ok, yesT_run, addD_int, subD_int, negD_int, ltD_int, leD_int, gtD_int, geD_int, eqD_int, eqD_bl, eqD_str, neD_int, neD_bl, isnD_non, isnD_int, isnD_bl, isnD_str, isnD_tup, isnD_ptr, isbD_bl, notbD_bl, truD_bl, and_bl, or_bl, and_tt, or_tt, fun1_run, fun2_run, intD_int, intD_bl, absD_int, gcdD_int, lenD_tup, ixS_int, ixD_tup, ixD_flst, atK_some, at0, at1, at2, at3, on_ok, srcM_run, srcA_run, srcD_str, srcD_tup, srcD_flst, guard_none, List.map_cons, List.map_nil, List.length_cons, List.length_nil, Nat.reduceAdd, Nat.reduceSub, Nat.sub_self, List.replicate_succ, List.replicate_zero, List.append_nil, List.nil_append, List.cons_append, List.getElem?_cons_zero, List.getElem?_cons_succ, List.set_cons_zero, List.set_cons_succ, if_true, Bool.not_true, Bool.not_false, Bool.false_eq_true, if_false, Bool.true_and, Bool.false_and, Bool.and_true, Bool.and_false, Bool.true_or, Bool.false_or, Bool.or_true, Bool.or_false, isi_ib, isi_ii, run_is_int]

/-! the program's points -/
section
variable {a b c d : Int} {s : S}
abbrev pt (a b c d : Int) : D := .tup [num a b, num c d]
theorem run_less (h : MulOk a d) (h2 : MulOk c b) : F_is_less [num a b, num c d] s = .ok (.bl (decide (a * d < c * b))) s := by
  unfold F_is_less m_is_less
  simp only [fnM_run, startE, seqS_run, setS_run, dropS_run, retS_run, nxS_run, ifS_run, asgS_run, parS_run, forS_run, gNm_run, gNilM_run, gConsM_run, gTup2, gTup3, gSubM_run, seqK_nx, seqK_rt, seqK_bk, seqK_ct, outM_rt, outM_nx, lenM0, lenM1, lenM2, lenM3, lenM4, lenM5, callM_run, consA_run, nilA_run, tupM_run, lstM_run, tupK_1, tupK_2, tupK_3, tupK_4, binM_run, unM_run, tB_run, bB_bl, chainM_run, chK_t, chK_f, truM_run, andM_run, orM_run, notM_run, andT_run, orT_run, notT_run, ifM_run, cM_run, varM_run, varK_ok, yesT_run, addD_int, subD_int, negD_int, ltD_int, leD_int, gtD_int, geD_int, eqD_int, eqD_bl, eqD_str, neD_int, neD_bl, isnD_non, isnD_int, isnD_bl, isnD_str, isnD_tup, isnD_ptr, isbD_bl, notbD_bl, truD_bl, and_bl, or_bl, and_tt, or_tt, fun1_run, fun2_run, intD_int, intD_bl, absD_int, gcdD_int, lenD_tup, ixS_int, ixD_tup, ixD_flst, atK_some, at0, at1, at2, at3, on_ok, srcM_run, srcA_run, srcD_str, srcD_tup, srcD_flst, guard_none, List.map_cons, List.map_nil, List.length_cons, List.length_nil, Nat.reduceAdd, Nat.reduceSub, Nat.sub_self, List.replicate_succ, List.replicate_zero, List.append_nil, List.nil_append, List.cons_append, List.getElem?_cons_zero, List.getElem?_cons_succ, List.set_cons_zero, List.set_cons_succ, if_true, Bool.not_true, Bool.not_false, Bool.false_eq_true, if_false, Bool.true_and, Bool.false_and, Bool.and_true, Bool.and_false, Bool.true_or, Bool.false_or, Bool.or_true, Bool.or_false, mulD_int h, mulD_int h2]
theorem run_sign : F_sign [num a b] s = .ok (.int (sgn a)) s := by
  unfold F_sign m_sign sgn
  simp only [fnM_run, startE, seqS_run, setS_run, dropS_run, retS_run, nxS_run, ifS_run, asgS_run, parS_run, forS_run, gNm_run, gNilM_run, gConsM_run, gTup2, gTup3, gSubM_run, seqK_nx, seqK_rt, seqK_bk, seqK_ct, outM_rt, outM_nx, lenM0, lenM1, lenM2, lenM3, lenM4, lenM5, callM_run, consA_run, nilA_run, tupM_run, lstM_run, tupK_1, tupK_2, tupK_3, tupK_4, binM_run, unM_run, tB_run, bB_bl, chainM_run, chK_t, chK_f, truM_run, andM_run, orM_run, notM_run, andT_run, orT_run, notT_run, ifM_run, cM_run, varM_run, varK_ok, yesT_run, addD_int, subD_int, negD_int, ltD_int, leD_int, gtD_int, geD_int, eqD_int, eqD_bl, eqD_str, neD_int, neD_bl, isnD_non, isnD_int, isnD_bl, isnD_str, isnD_tup, isnD_ptr, isbD_bl, notbD_bl, truD_bl, and_bl, or_bl, and_tt, or_tt, fun1_run, fun2_run, intD_int, intD_bl, absD_int, gcdD_int, lenD_tup, ixS_int, ixD_tup, ixD_flst, atK_some, at0, at1, at2, at3, on_ok, srcM_run, srcA_run, srcD_str, srcD_tup, srcD_flst, guard_none, List.map_cons, List.map_nil, List.length_cons, List.length_nil, Nat.reduceAdd, Nat.reduceSub, Nat.sub_self, List.replicate_succ, List.replicate_zero, List.append_nil, List.nil_append, List.cons_append, List.getElem?_cons_zero, List.getElem?_cons_succ, List.set_cons_zero, List.set_cons_succ, if_true, Bool.not_true, Bool.not_false, Bool.false_eq_true, if_false, Bool.true_and, Bool.false_and, Bool.and_true, Bool.and_false, Bool.true_or, Bool.false_or, Bool.or_true, Bool.or_false]
  by_cases h1 : 0 < a
  · simp only [fnM_run, startE, seqS_run, setS_run, dropS_run, retS_run, nxS_run, ifS_run, asgS_run, parS_run, forS_run, gNm_run, gNilM_run, gConsM_run, gTup2, gTup3, gSubM_run, seqK_nx, seqK_rt, seqK_bk, seqK_ct, outM_rt, outM_nx, lenM0, lenM1, lenM2, lenM3, lenM4, lenM5, callM_run, consA_run, nilA_run, tupM_run, lstM_run, tupK_1, tupK_2, tupK_3, tupK_4, binM_run, unM_run, tB_run, bB_bl, chainM_run, chK_t, chK_f, truM_run, andM_run, orM_run, notM_run, andT_run, orT_run, notT_run, ifM_run, cM_run, varM_run, varK_ok, yesT_run, addD_int, subD_int, negD_int, ltD_int, leD_int, gtD_int, geD_int, eqD_int, eqD_bl, eqD_str, neD_int, neD_bl, isnD_non, isnD_int, isnD_bl, isnD_str, isnD_tup, isnD_ptr, isbD_bl, notbD_bl, truD_bl, and_bl, or_bl, and_tt, or_tt, fun1_run, fun2_run, intD_int, intD_bl, absD_int, gcdD_int, lenD_tup, ixS_int, ixD_tup, ixD_flst, atK_some, at0, at1, at2, at3, on_ok, srcM_run, srcA_run, srcD_str, srcD_tup, srcD_flst, guard_none, List.map_cons, List.map_nil, List.length_cons, List.length_nil, Nat.reduceAdd, Nat.reduceSub, Nat.sub_self, List.replicate_succ, List.replicate_zero, List.append_nil, List.nil_append, List.cons_append, List.getElem?_cons_zero, List.getElem?_cons_succ, List.set_cons_zero, List.set_cons_succ, if_true, Bool.not_true, Bool.not_false, Bool.false_eq_true, if_false, Bool.true_and, Bool.false_and, Bool.and_true, Bool.and_false, Bool.true_or, Bool.false_or, Bool.or_true, Bool.or_false, h1, decide_true]
  · by_cases h2 : a < 0
    · simp only [fnM_run, startE, seqS_run, setS_run, dropS_run, retS_run, nxS_run, ifS_run, asgS_run, parS_run, forS_run, gNm_run, gNilM_run, gConsM_run, gTup2, gTup3, gSubM_run, seqK_nx, seqK_rt, seqK_bk, seqK_ct, outM_rt, outM_nx, lenM0, lenM1, lenM2, lenM3, lenM4, lenM5, callM_run, consA_run, nilA_run, tupM_run, lstM_run, tupK_1, tupK_2, tupK_3, tupK_4, binM_run, unM_run, tB_run, bB_bl, chainM_run, chK_t, chK_f, truM_run, andM_run, orM_run, notM_run, andT_run, orT_run, notT_run, ifM_run, cM_run, varM_run, varK_ok, yesT_run, addD_int, subD_int, negD_int, ltD_int, leD_int, gtD_int, geD_int, eqD_int, eqD_bl, eqD_str, neD_int, neD_bl, isnD_non, isnD_int, isnD_bl, isnD_str, isnD_tup, isnD_ptr, isbD_bl, notbD_bl, truD_bl, and_bl, or_bl, and_tt, or_tt, fun1_run, fun2_run, intD_int, intD_bl, absD_int, gcdD_int, lenD_tup, ixS_int, ixD_tup, ixD_flst, atK_some, at0, at1, at2, at3, on_ok, srcM_run, srcA_run, srcD_str, srcD_tup, srcD_flst, guard_none, List.map_cons, List.map_nil, List.length_cons, List.length_nil, Nat.reduceAdd, Nat.reduceSub, Nat.sub_self, List.replicate_succ, List.replicate_zero, List.append_nil, List.nil_append, List.cons_append, List.getElem?_cons_zero, List.getElem?_cons_succ, List.set_cons_zero, List.set_cons_succ, if_true, Bool.not_true, Bool.not_false, Bool.false_eq_true, if_false, Bool.true_and, Bool.false_and, Bool.and_true, Bool.and_false, Bool.true_or, Bool.false_or, Bool.or_true, Bool.or_false, h1, h2, decide_true, decide_false]
    · simp only [fnM_run, startE, seqS_run, setS_run, dropS_run, retS_run, nxS_run, ifS_run, asgS_run, parS_run, forS_run, gNm_run, gNilM_run, gConsM_run, gTup2, gTup3, gSubM_run, seqK_nx, seqK_rt, seqK_bk, seqK_ct, outM_rt, outM_nx, lenM0, lenM1, lenM2, lenM3, lenM4, lenM5, callM_run, consA_run, nilA_run, tupM_run, lstM_run, tupK_1, tupK_2, tupK_3, tupK_4, binM_run, unM_run, tB_run, bB_bl, chainM_run, chK_t, chK_f, truM_run, andM_run, orM_run, notM_run, andT_run, orT_run, notT_run, ifM_run, cM_run, varM_run, varK_ok, yesT_run, addD_int, subD_int, negD_int, ltD_int, leD_int, gtD_int, geD_int, eqD_int, eqD_bl, eqD_str, neD_int, neD_bl, isnD_non, isnD_int, isnD_bl, isnD_str, isnD_tup, isnD_ptr, isbD_bl, notbD_bl, truD_bl, and_bl, or_bl, and_tt, or_tt, fun1_run, fun2_run, intD_int, intD_bl, absD_int, gcdD_int, lenD_tup, ixS_int, ixD_tup, ixD_flst, atK_some, at0, at1, at2, at3, on_ok, srcM_run, srcA_run, srcD_str, srcD_tup, srcD_flst, guard_none, List.map_cons, List.map_nil, List.length_cons, List.length_nil, Nat.reduceAdd, Nat.reduceSub, Nat.sub_self, List.replicate_succ, List.replicate_zero, List.append_nil, List.nil_append, List.cons_append, List.getElem?_cons_zero, List.getElem?_cons_succ, List.set_cons_zero, List.set_cons_succ, if_true, Bool.not_true, Bool.not_false, Bool.false_eq_true, if_false, Bool.true_and, Bool.false_and, Bool.and_true, Bool.and_false, Bool.true_or, Bool.false_or, Bool.or_true, Bool.or_false, h1, h2, decide_false]
theorem run_step (ha : Bt 2000 a) (hb : Bt 2000 b) (hc : Bt 2000 c) (hd : Bt 2000 d) : F__step [num a b, num c d] s = .ok (num (c * b - a * d) (b * d)) s := by
  unfold F__step m__step
  simp only [fnM_run, startE, seqS_run, setS_run, dropS_run, retS_run, nxS_run, ifS_run, asgS_run, parS_run, forS_run, gNm_run, gNilM_run, gConsM_run, gTup2, gTup3, gSubM_run, seqK_nx, seqK_rt, seqK_bk, seqK_ct, outM_rt, outM_nx, lenM0, lenM1, lenM2, lenM3, lenM4, lenM5, callM_run, consA_run, nilA_run, tupM_run, lstM_run, tupK_1, tupK_2, tupK_3, tupK_4, binM_run, unM_run, tB_run, bB_bl, chainM_run, chK_t, chK_f, truM_run, andM_run, orM_run, notM_run, andT_run, orT_run, notT_run, ifM_run, cM_run, varM_run, varK_ok, yesT_run, addD_int, subD_int, negD_int, ltD_int, leD_int, gtD_int, geD_int, eqD_int, eqD_bl, eqD_str, neD_int, neD_bl, isnD_non, isnD_int, isnD_bl, isnD_str, isnD_tup, isnD_ptr, isbD_bl, notbD_bl, truD_bl, and_bl, or_bl, and_tt, or_tt, fun1_run, fun2_run, intD_int, intD_bl, absD_int, gcdD_int, lenD_tup, ixS_int, ixD_tup, ixD_flst, atK_some, at0, at1, at2, at3, on_ok, srcM_run, srcA_run, srcD_str, srcD_tup, srcD_flst, guard_none, List.map_cons, List.map_nil, List.length_cons, List.length_nil, Nat.reduceAdd, Nat.reduceSub, Nat.sub_self, List.replicate_succ, List.replicate_zero, List.append_nil, List.nil_append, List.cons_append, List.getElem?_cons_zero, List.getElem?_cons_succ, List.set_cons_zero, List.set_cons_succ, if_true, Bool.not_true, Bool.not_false, Bool.false_eq_true, if_false, Bool.true_and, Bool.false_and, Bool.and_true, Bool.and_false, Bool.true_or, Bool.false_or, Bool.or_true, Bool.or_false, mulD_int (mk2 hc hb (by decide) (by decide)), mulD_int (mk2 ha hd (by decide) (by decide)), mulD_int (mk2 hb hd (by decide) (by decide))]
theorem run_turn {p0 p1 p2 p3 q0 q1 q2 q3 r0 r1 r2 r3 : Int} (hp0 : Bt 2000 p0) (hp1 : Bt 2000 p1) (hp2 : Bt 2000 p2) (hp3 : Bt 2000 p3) (hq0 : Bt 2000 q0) (hq1 : Bt 2000 q1) (hq2 : Bt 2000 q2) (hq3 : Bt 2000 q3) (hr0 : Bt 2000 r0) (hr1 : Bt 2000 r1) (hr2 : Bt 2000 r2) (hr3 : Bt 2000 r3) :
    F_turn [pt p0 p1 p2 p3, pt q0 q1 q2 q3, pt r0 r1 r2 r3] s = .ok (.int (sgn ((q0 * p1 - p0 * q1) * (r2 * p3 - p2 * r3) * (p3 * q3) * (p1 * r1) - (q2 * p3 - p2 * q3) * (r0 * p1 - p0 * r1) * (p1 * q1) * (p3 * r3)))) s := by
  have s1 := ((hq0.mul hp1).sub (hp0.mul hq1))
  have s2 := ((hr2.mul hp3).sub (hp2.mul hr3))
  have s3 := ((hq2.mul hp3).sub (hp2.mul hq3))
  have s4 := ((hr0.mul hp1).sub (hp0.mul hr1))
  have t1 := hp3.mul hq3
  have t2 := hp1.mul hr1
  have t3 := hp1.mul hq1
  have t4 := hp3.mul hr3
  unfold F_turn m_turn
  simp only [fnM_run, startE, seqS_run, setS_run, dropS_run, retS_run, nxS_run, ifS_run, asgS_run, parS_run, forS_run, gNm_run, gNilM_run, gConsM_run, gTup2, gTup3, gSubM_run, seqK_nx, seqK_rt, seqK_bk, seqK_ct, outM_rt, outM_nx, lenM0, lenM1, lenM2, lenM3, lenM4, lenM5, callM_run, consA_run, nilA_run, tupM_run, lstM_run, tupK_1, tupK_2, tupK_3, tupK_4, binM_run, unM_run, tB_run, bB_bl, chainM_run, chK_t, chK_f, truM_run, andM_run, orM_run, notM_run, andT_run, orT_run, notT_run, ifM_run, cM_run, varM_run, varK_ok, yesT_run, addD_int, subD_int, negD_int, ltD_int, leD_int, gtD_int, geD_int, eqD_int, eqD_bl, eqD_str, neD_int, neD_bl, isnD_non, isnD_int, isnD_bl, isnD_str, isnD_tup, isnD_ptr, isbD_bl, notbD_bl, truD_bl, and_bl, or_bl, and_tt, or_tt, fun1_run, fun2_run, intD_int, intD_bl, absD_int, gcdD_int, lenD_tup, ixS_int, ixD_tup, ixD_flst, atK_some, at0, at1, at2, at3, on_ok, srcM_run, srcA_run, srcD_str, srcD_tup, srcD_flst, guard_none, List.map_cons, List.map_nil, List.length_cons, List.length_nil, Nat.reduceAdd, Nat.reduceSub, Nat.sub_self, List.replicate_succ, List.replicate_zero, List.append_nil, List.nil_append, List.cons_append, List.getElem?_cons_zero, List.getElem?_cons_succ, List.set_cons_zero, List.set_cons_succ, if_true, Bool.not_true, Bool.not_false, Bool.false_eq_true, if_false, Bool.true_and, Bool.false_and, Bool.and_true, Bool.and_false, Bool.true_or, Bool.false_or, Bool.or_true, Bool.or_false, run_step hp0 hp1 hq0 hq1, run_step hp2 hp3 hq2 hq3, run_step hp0 hp1 hr0 hr1, run_step hp2 hp3 hr2 hr3,
    mulD_int (mk2 s1 s2 (by decide) (by decide)), mulD_int (mk2 (s1.mul s2) t1 (by decide) (by decide)), mulD_int (mk2 ((s1.mul s2).mul t1) t2 (by decide) (by decide)),
    mulD_int (mk2 s3 s4 (by decide) (by decide)), mulD_int (mk2 (s3.mul s4) t3 (by decide) (by decide)), mulD_int (mk2 ((s3.mul s4).mul t3) t4 (by decide) (by decide)), run_sign]
/-- r lies between p and q, as numbers -/
theorem run_between {n e a b c d : Int} (hn : Bt 2000 n) (he : Bt 2000 e) (ha : Bt 2000 a) (hb : Bt 2000 b) (hc : Bt 2000 c) (hd : Bt 2000 d) :
    F__is_between [num n e, num a b, num c d] s = .ok (.bl (if n * b < a * e then decide (c * e ≤ n * d) else (decide (n * b ≤ a * e) || decide (n * d ≤ c * e)))) s := by
  have o1 : MulOk n b := mk2 hn hb (by decide) (by decide)
  have o2 : MulOk a e := mk2 ha he (by decide) (by decide)
  have o3 : MulOk n d := mk2 hn hd (by decide) (by decide)
  have o4 : MulOk c e := mk2 hc he (by decide) (by decide)
  have nl : ∀ x y : Int, (!decide (x < y)) = decide (y ≤ x) := fun x y => by
    by_cases h : x < y
    · rw [decide_eq_true h, decide_eq_false (by omega)]
      rfl
    · rw [decide_eq_false h, decide_eq_true (by omega)]
      rfl
  unfold F__is_between m__is_between
  by_cases h1 : n * b < a * e
  · simp only [fnM_run, startE, seqS_run, setS_run, dropS_run, retS_run, nxS_run, ifS_run, asgS_run, parS_run, forS_run, gNm_run, gNilM_run, gConsM_run, gTup2, gTup3, gSubM_run, seqK_nx, seqK_rt, seqK_bk, seqK_ct, outM_rt, outM_nx, lenM0, lenM1, lenM2, lenM3, lenM4, lenM5, callM_run, consA_run, nilA_run, tupM_run, lstM_run, tupK_1, tupK_2, tupK_3, tupK_4, binM_run, unM_run, tB_run, bB_bl, chainM_run, chK_t, chK_f, truM_run, andM_run, orM_run, notM_run, andT_run, orT_run, notT_run, ifM_run, cM_run, varM_run, varK_ok, yesT_run, addD_int, subD_int, negD_int, ltD_int, leD_int, gtD_int, geD_int, eqD_int, eqD_bl, eqD_str, neD_int, neD_bl, isnD_non, isnD_int, isnD_bl, isnD_str, isnD_tup, isnD_ptr, isbD_bl, notbD_bl, truD_bl, and_bl, or_bl, and_tt, or_tt, fun1_run, fun2_run, intD_int, intD_bl, absD_int, gcdD_int, lenD_tup, ixS_int, ixD_tup, ixD_flst, atK_some, at0, at1, at2, at3, on_ok, srcM_run, srcA_run, srcD_str, srcD_tup, srcD_flst, guard_none, List.map_cons, List.map_nil, List.length_cons, List.length_nil, Nat.reduceAdd, Nat.reduceSub, Nat.sub_self, List.replicate_succ, List.replicate_zero, List.append_nil, List.nil_append, List.cons_append, List.getElem?_cons_zero, List.getElem?_cons_succ, List.set_cons_zero, List.set_cons_succ, if_true, Bool.not_true, Bool.not_false, Bool.false_eq_true, if_false, Bool.true_and, Bool.false_and, Bool.and_true, Bool.and_false, Bool.true_or, Bool.false_or, Bool.or_true, Bool.or_false, run_less o1 o2, run_less o3 o4, h1, decide_true, nl]
  · simp only [fnM_run, startE, seqS_run, setS_run, dropS_run, retS_run, nxS_run, ifS_run, asgS_run, parS_run, forS_run, gNm_run, gNilM_run, gConsM_run, gTup2, gTup3, gSubM_run, seqK_nx, seqK_rt, seqK_bk, seqK_ct, outM_rt, outM_nx, lenM0, lenM1, lenM2, lenM3, lenM4, lenM5, callM_run, consA_run, nilA_run, tupM_run, lstM_run, tupK_1, tupK_2, tupK_3, tupK_4, binM_run, unM_run, tB_run, bB_bl, chainM_run, chK_t, chK_f, truM_run, andM_run, orM_run, notM_run, andT_run, orT_run, notT_run, ifM_run, cM_run, varM_run, varK_ok, yesT_run, addD_int, subD_int, negD_int, ltD_int, leD_int, gtD_int, geD_int, eqD_int, eqD_bl, eqD_str, neD_int, neD_bl, isnD_non, isnD_int, isnD_bl, isnD_str, isnD_tup, isnD_ptr, isbD_bl, notbD_bl, truD_bl, and_bl, or_bl, and_tt, or_tt, fun1_run, fun2_run, intD_int, intD_bl, absD_int, gcdD_int, lenD_tup, ixS_int, ixD_tup, ixD_flst, atK_some, at0, at1, at2, at3, on_ok, srcM_run, srcA_run, srcD_str, srcD_tup, srcD_flst, guard_none, List.map_cons, List.map_nil, List.length_cons, List.length_nil, Nat.reduceAdd, Nat.reduceSub, Nat.sub_self, List.replicate_succ, List.replicate_zero, List.append_nil, List.nil_append, List.cons_append, List.getElem?_cons_zero, List.getElem?_cons_succ, List.set_cons_zero, List.set_cons_succ, if_true, Bool.not_true, Bool.not_false, Bool.false_eq_true, if_false, Bool.true_and, Bool.false_and, Bool.and_true, Bool.and_false, Bool.true_or, Bool.false_or, Bool.or_true, Bool.or_false, run_less o1 o2, run_less o2 o1, run_less o4 o3, h1, decide_false, nl]
theorem run_on {p0 p1 p2 p3 q0 q1 q2 q3 r0 r1 r2 r3 : Int} (hp0 : Bt 2000 p0) (hp1 : Bt 2000 p1) (hp2 : Bt 2000 p2) (hp3 : Bt 2000 p3) (hq0 : Bt 2000 q0) (hq1 : Bt 2000 q1) (hq2 : Bt 2000 q2) (hq3 : Bt 2000 q3) (hr0 : Bt 2000 r0) (hr1 : Bt 2000 r1) (hr2 : Bt 2000 r2) (hr3 : Bt 2000 r3) :
    F_on_segment [pt r0 r1 r2 r3, pt p0 p1 p2 p3, pt q0 q1 q2 q3] s = .ok (.bl (decide (sgn ((q0 * p1 - p0 * q1) * (r2 * p3 - p2 * r3) * (p3 * q3) * (p1 * r1) - (q2 * p3 - p2 * q3) * (r0 * p1 - p0 * r1) * (p1 * q1) * (p3 * r3)) = 0) &&
      ((if r0 * p1 < p0 * r1 then decide (q0 * r1 ≤ r0 * q1) else (decide (r0 * p1 ≤ p0 * r1) || decide (r0 * q1 ≤ q0 * r1))) &&
       (if r2 * p3 < p2 * r3 then decide (q2 * r3 ≤ r2 * q3) else (decide (r2 * p3 ≤ p2 * r3) || decide (r2 * q3 ≤ q2 * r3)))))) s := by
  unfold F_on_segment m_on_segment
  simp only [fnM_run, startE, seqS_run, setS_run, dropS_run, retS_run, nxS_run, ifS_run, asgS_run, parS_run, forS_run, gNm_run, gNilM_run, gConsM_run, gTup2, gTup3, gSubM_run, seqK_nx, seqK_rt, seqK_bk, seqK_ct, outM_rt, outM_nx, lenM0, lenM1, lenM2, lenM3, lenM4, lenM5, callM_run, consA_run, nilA_run, tupM_run, lstM_run, tupK_1, tupK_2, tupK_3, tupK_4, binM_run, unM_run, tB_run, bB_bl, chainM_run, chK_t, chK_f, truM_run, andM_run, orM_run, notM_run, andT_run, orT_run, notT_run, ifM_run, cM_run, varM_run, varK_ok, yesT_run, addD_int, subD_int, negD_int, ltD_int, leD_int, gtD_int, geD_int, eqD_int, eqD_bl, eqD_str, neD_int, neD_bl, isnD_non, isnD_int, isnD_bl, isnD_str, isnD_tup, isnD_ptr, isbD_bl, notbD_bl, truD_bl, and_bl, or_bl, and_tt, or_tt, fun1_run, fun2_run, intD_int, intD_bl, absD_int, gcdD_int, lenD_tup, ixS_int, ixD_tup, ixD_flst, atK_some, at0, at1, at2, at3, on_ok, srcM_run, srcA_run, srcD_str, srcD_tup, srcD_flst, guard_none, List.map_cons, List.map_nil, List.length_cons, List.length_nil, Nat.reduceAdd, Nat.reduceSub, Nat.sub_self, List.replicate_succ, List.replicate_zero, List.append_nil, List.nil_append, List.cons_append, List.getElem?_cons_zero, List.getElem?_cons_succ, List.set_cons_zero, List.set_cons_succ, if_true, Bool.not_true, Bool.not_false, Bool.false_eq_true, if_false, Bool.true_and, Bool.false_and, Bool.and_true, Bool.and_false, Bool.true_or, Bool.false_or, Bool.or_true, Bool.or_false, run_turn hp0 hp1 hp2 hp3 hq0 hq1 hq2 hq3 hr0 hr1 hr2 hr3]
  generalize sgn _ = z
  by_cases hz : z = 0
  · simp only [fnM_run, startE, seqS_run, setS_run, dropS_run, retS_run, nxS_run, ifS_run, asgS_run, parS_run, forS_run, gNm_run, gNilM_run, gConsM_run, gTup2, gTup3, gSubM_run, seqK_nx, seqK_rt, seqK_bk, seqK_ct, outM_rt, outM_nx, lenM0, lenM1, lenM2, lenM3, lenM4, lenM5, callM_run, consA_run, nilA_run, tupM_run, lstM_run, tupK_1, tupK_2, tupK_3, tupK_4, binM_run, unM_run, tB_run, bB_bl, chainM_run, chK_t, chK_f, truM_run, andM_run, orM_run, notM_run, andT_run, orT_run, notT_run, ifM_run, cM_run, varM_run, varK_ok, yesT_run, addD_int, subD_int, negD_int, ltD_int, leD_int, gtD_int, geD_int, eqD_int, eqD_bl, eqD_str, neD_int, neD_bl, isnD_non, isnD_int, isnD_bl, isnD_str, isnD_tup, isnD_ptr, isbD_bl, notbD_bl, truD_bl, and_bl, or_bl, and_tt, or_tt, fun1_run, fun2_run, intD_int, intD_bl, absD_int, gcdD_int, lenD_tup, ixS_int, ixD_tup, ixD_flst, atK_some, at0, at1, at2, at3, on_ok, srcM_run, srcA_run, srcD_str, srcD_tup, srcD_flst, guard_none, List.map_cons, List.map_nil, List.length_cons, List.length_nil, Nat.reduceAdd, Nat.reduceSub, Nat.sub_self, List.replicate_succ, List.replicate_zero, List.append_nil, List.nil_append, List.cons_append, List.getElem?_cons_zero, List.getElem?_cons_succ, List.set_cons_zero, List.set_cons_succ, if_true, Bool.not_true, Bool.not_false, Bool.false_eq_true, if_false, Bool.true_and, Bool.false_and, Bool.and_true, Bool.and_false, Bool.true_or, Bool.false_or, Bool.or_true, Bool.or_false, hz, decide_true, run_between hr0 hr1 hp0 hp1 hq0 hq1, Bool.true_and]
    generalize (if r0 * p1 < p0 * r1 then decide (q0 * r1 ≤ r0 * q1) else (decide (r0 * p1 ≤ p0 * r1) || decide (r0 * q1 ≤ q0 * r1))) = b1
    cases b1 with
    | false => simp only [fnM_run, startE, seqS_run, setS_run, dropS_run, retS_run, nxS_run, ifS_run, asgS_run, parS_run, forS_run, gNm_run, gNilM_run, gConsM_run, gTup2, gTup3, gSubM_run, seqK_nx, seqK_rt, seqK_bk, seqK_ct, outM_rt, outM_nx, lenM0, lenM1, lenM2, lenM3, lenM4, lenM5, callM_run, consA_run, nilA_run, tupM_run, lstM_run, tupK_1, tupK_2, tupK_3, tupK_4, binM_run, unM_run, tB_run, bB_bl, chainM_run, chK_t, chK_f, truM_run, andM_run, orM_run, notM_run, andT_run, orT_run, notT_run, ifM_run, cM_run, varM_run, varK_ok, yesT_run, addD_int, subD_int, negD_int, ltD_int, leD_int, gtD_int, geD_int, eqD_int, eqD_bl, eqD_str, neD_int, neD_bl, isnD_non, isnD_int, isnD_bl, isnD_str, isnD_tup, isnD_ptr, isbD_bl, notbD_bl, truD_bl, and_bl, or_bl, and_tt, or_tt, fun1_run, fun2_run, intD_int, intD_bl, absD_int, gcdD_int, lenD_tup, ixS_int, ixD_tup, ixD_flst, atK_some, at0, at1, at2, at3, on_ok, srcM_run, srcA_run, srcD_str, srcD_tup, srcD_flst, guard_none, List.map_cons, List.map_nil, List.length_cons, List.length_nil, Nat.reduceAdd, Nat.reduceSub, Nat.sub_self, List.replicate_succ, List.replicate_zero, List.append_nil, List.nil_append, List.cons_append, List.getElem?_cons_zero, List.getElem?_cons_succ, List.set_cons_zero, List.set_cons_succ, if_true, Bool.not_true, Bool.not_false, Bool.false_eq_true, if_false, Bool.true_and, Bool.false_and, Bool.and_true, Bool.and_false, Bool.true_or, Bool.false_or, Bool.or_true, Bool.or_false, Bool.false_and]
    | true => simp only [fnM_run, startE, seqS_run, setS_run, dropS_run, retS_run, nxS_run, ifS_run, asgS_run, parS_run, forS_run, gNm_run, gNilM_run, gConsM_run, gTup2, gTup3, gSubM_run, seqK_nx, seqK_rt, seqK_bk, seqK_ct, outM_rt, outM_nx, lenM0, lenM1, lenM2, lenM3, lenM4, lenM5, callM_run, consA_run, nilA_run, tupM_run, lstM_run, tupK_1, tupK_2, tupK_3, tupK_4, binM_run, unM_run, tB_run, bB_bl, chainM_run, chK_t, chK_f, truM_run, andM_run, orM_run, notM_run, andT_run, orT_run, notT_run, ifM_run, cM_run, varM_run, varK_ok, yesT_run, addD_int, subD_int, negD_int, ltD_int, leD_int, gtD_int, geD_int, eqD_int, eqD_bl, eqD_str, neD_int, neD_bl, isnD_non, isnD_int, isnD_bl, isnD_str, isnD_tup, isnD_ptr, isbD_bl, notbD_bl, truD_bl, and_bl, or_bl, and_tt, or_tt, fun1_run, fun2_run, intD_int, intD_bl, absD_int, gcdD_int, lenD_tup, ixS_int, ixD_tup, ixD_flst, atK_some, at0, at1, at2, at3, on_ok, srcM_run, srcA_run, srcD_str, srcD_tup, srcD_flst, guard_none, List.map_cons, List.map_nil, List.length_cons, List.length_nil, Nat.reduceAdd, Nat.reduceSub, Nat.sub_self, List.replicate_succ, List.replicate_zero, List.append_nil, List.nil_append, List.cons_append, List.getElem?_cons_zero, List.getElem?_cons_succ, List.set_cons_zero, List.set_cons_succ, if_true, Bool.not_true, Bool.not_false, Bool.false_eq_true, if_false, Bool.true_and, Bool.false_and, Bool.and_true, Bool.and_false, Bool.true_or, Bool.false_or, Bool.or_true, Bool.or_false, run_between hr2 hr3 hp2 hp3 hq2 hq3, Bool.true_and]
  · simp only [fnM_run, startE, seqS_run, setS_run, dropS_run, retS_run, nxS_run, ifS_run, asgS_run, parS_run, forS_run, gNm_run, gNilM_run, gConsM_run, gTup2, gTup3, gSubM_run, seqK_nx, seqK_rt, seqK_bk, seqK_ct, outM_rt, outM_nx, lenM0, lenM1, lenM2, lenM3, lenM4, lenM5, callM_run, consA_run, nilA_run, tupM_run, lstM_run, tupK_1, tupK_2, tupK_3, tupK_4, binM_run, unM_run, tB_run, bB_bl, chainM_run, chK_t, chK_f, truM_run, andM_run, orM_run, notM_run, andT_run, orT_run, notT_run, ifM_run, cM_run, varM_run, varK_ok, yesT_run, addD_int, subD_int, negD_int, ltD_int, leD_int, gtD_int, geD_int, eqD_int, eqD_bl, eqD_str, neD_int, neD_bl, isnD_non, isnD_int, isnD_bl, isnD_str, isnD_tup, isnD_ptr, isbD_bl, notbD_bl, truD_bl, and_bl, or_bl, and_tt, or_tt, fun1_run, fun2_run, intD_int, intD_bl, absD_int, gcdD_int, lenD_tup, ixS_int, ixD_tup, ixD_flst, atK_some, at0, at1, at2, at3, on_ok, srcM_run, srcA_run, srcD_str, srcD_tup, srcD_flst, guard_none, List.map_cons, List.map_nil, List.length_cons, List.length_nil, Nat.reduceAdd, Nat.reduceSub, Nat.sub_self, List.replicate_succ, List.replicate_zero, List.append_nil, List.nil_append, List.cons_append, List.getElem?_cons_zero, List.getElem?_cons_succ, List.set_cons_zero, List.set_cons_succ, if_true, Bool.not_true, Bool.not_false, Bool.false_eq_true, if_false, Bool.true_and, Bool.false_and, Bool.and_true, Bool.and_false, Bool.true_or, Bool.false_or, Bool.or_true, Bool.or_false, hz, decide_false, Bool.false_and]
end

/-! names and corners -/
def signOk (c : Nat) : Bool := !decide (c < 97) && !decide (122 < c)
def nameOk (x : Str) : Bool := decide (1 ≤ (x.length : Int)) && decide ((x.length : Int) ≤ 12) && x.cps.toList.all signOk
theorem isi_ss {x : Str} {s : S} : isiD "str" (.str x) s = .ok (.bl true) s := isi_run rfl (by decide +kernel)
theorem isi_is {i : Int} {s : S} : isiD "str" (.int i) s = .ok (.bl false) s := isi_run rfl (by decide +kernel)
theorem isi_ns {s : S} : isiD "str" .non s = .ok (.bl false) s := isi_run rfl (by decide +kernel)
theorem isi_ts {ds : List D} {s : S} : isiD "str" (.tup ds) s = .ok (.bl false) s := isi_run rfl (by decide +kernel)
theorem isi_ti {ds : List D} {s : S} : isiD "int" (.tup ds) s = .ok (.bl false) s := isi_run rfl (by decide +kernel)
theorem isi_si {x : Str} {s : S} : isiD "int" (.str x) s = .ok (.bl false) s := isi_run rfl (by decide +kernel)
theorem isi_it {i : Int} {s : S} : isiD "tuple" (.int i) s = .ok (.bl false) s := isi_run rfl (by decide +kernel)
theorem isi_nt {s : S} : isiD "tuple" .non s = .ok (.bl false) s := isi_run rfl (by decide +kernel)
theorem isi_lt {k : Nat} {ds : List D} {s : S} (h : s[k]? = some (.lst ds)) : isiD "tuple" (.ptr k) s = .ok (.bl false) s := isi_run (t := "list") (by
  show (match s[k]? with
    | some (.lst _) => some "list"
    | some (.dK _) => some "dict"
    | some (.dT _) => some "dict"
    | _ => none) = _
  rw [h]) (by decide +kernel)
theorem leD_str {a b : Str} {s : S} : leD (.str a) (.str b) s = .ok (.bl (!decide (b.cps.toList < a.cps.toList))) s := rfl
theorem lex1 {a b : Nat} : decide (([a] : List Nat) < [b]) = decide (a < b) := by
  by_cases h : a < b
  · rw [decide_eq_true h]
    exact decide_eq_true (List.Lex.rel h)
  · rw [decide_eq_false h]
    refine decide_eq_false fun z => ?_
    cases z with
    | rel z => exact h z
    | cons z => cases z
theorem lenD_str {x : Str} {s : S} (h : x.length ≤ 100000) : lenD (.str x) s = .ok (.int (x.length : Int)) s := by
  show (if x.length ≤ 100000 then (Pure.pure (D.int (x.length : Int)) : M D) else stuck) s = _
  rw [if_pos h]
  rfl
theorem run_is_name {x : Str} {s : S} (hx : x.length ≤ 100000) : ∃ g, F_is_name [.str x] s = .ok (.bl (nameOk x)) (s ++ g) := by
  unfold F_is_name m_is_name nameOk
  by_cases h1 : 1 ≤ (x.length : Int)
  · by_cases h2 : (x.length : Int) ≤ 12
    · refine ⟨[.lst ((x.cps.toList.map signOk).map D.bl)], ?_⟩
      have hl : (signsOf x).length ≤ 100000 := by
        unfold signsOf
        rw [List.length_map]
        exact hx
      have hc : ∀ (r : Src), r.Ok s → collM r (gNm 1) yesT (chainM leD leD (cM (.str "a")) (varM 1) (cM (.str "z"))) [some (.str x), none] (signsOf x) s = .ok ((x.cps.toList.map signOk).map D.bl) s := fun r ok => by
        have e := coll_map (ds := signsOf x) (t := yesT) (g := gNm 1) (e := chainM leD leD (cM (.str "a")) (varM 1) (cM (.str "z"))) (env0 := [some (.str x), none]) (v := fun d => match d with
          | .str y => .bl (signOk (y.cps.toList.headD 0))
          | _ => .non) ok (fun d hd => by
          unfold signsOf at hd
          obtain ⟨c, _, rfl⟩ := List.mem_map.mp hd
          have ea : ("a" : Str).cps.toList = [97] := by decide +kernel
          have ez : ("z" : Str).cps.toList = [122] := by decide +kernel
          have ec : (⟨#[c]⟩ : Str).cps.toList = [c] := rfl
          simp only [fnM_run, startE, seqS_run, setS_run, dropS_run, retS_run, nxS_run, ifS_run, asgS_run, parS_run, forS_run, gNm_run, gNilM_run, gConsM_run, gTup2, gTup3, gSubM_run, seqK_nx, seqK_rt, seqK_bk, seqK_ct, outM_rt, outM_nx, lenM0, lenM1, lenM2, lenM3, lenM4, lenM5, callM_run, consA_run, nilA_run, tupM_run, lstM_run, tupK_1, tupK_2, tupK_3, tupK_4, binM_run, unM_run, tB_run, bB_bl, chainM_run, chK_t, chK_f, truM_run, andM_run, orM_run, notM_run, andT_run, orT_run, notT_run, ifM_run, cM_run, varM_run, varK_ok, yesT_run, addD_int, subD_int, negD_int, ltD_int, leD_int, gtD_int, geD_int, eqD_int, eqD_bl, eqD_str, neD_int, neD_bl, isnD_non, isnD_int, isnD_bl, isnD_str, isnD_tup, isnD_ptr, isbD_bl, notbD_bl, truD_bl, and_bl, or_bl, and_tt, or_tt, fun1_run, fun2_run, intD_int, intD_bl, absD_int, gcdD_int, lenD_tup, ixS_int, ixD_tup, ixD_flst, atK_some, at0, at1, at2, at3, on_ok, srcM_run, srcA_run, srcD_str, srcD_tup, srcD_flst, guard_none, List.map_cons, List.map_nil, List.length_cons, List.length_nil, Nat.reduceAdd, Nat.reduceSub, Nat.sub_self, List.replicate_succ, List.replicate_zero, List.append_nil, List.nil_append, List.cons_append, List.getElem?_cons_zero, List.getElem?_cons_succ, List.set_cons_zero, List.set_cons_succ, if_true, Bool.not_true, Bool.not_false, Bool.false_eq_true, if_false, Bool.true_and, Bool.false_and, Bool.and_true, Bool.and_false, Bool.true_or, Bool.false_or, Bool.or_true, Bool.or_false, leD_str, ea, ez, ec, lex1]
          unfold signOk
          by_cases q : c < 97
          · simp only [fnM_run, startE, seqS_run, setS_run, dropS_run, retS_run, nxS_run, ifS_run, asgS_run, parS_run, forS_run, gNm_run, gNilM_run, gConsM_run, gTup2, gTup3, gSubM_run, seqK_nx, seqK_rt, seqK_bk, seqK_ct, outM_rt, outM_nx, lenM0, lenM1, lenM2, lenM3, lenM4, lenM5, callM_run, consA_run, nilA_run, tupM_run, lstM_run, tupK_1, tupK_2, tupK_3, tupK_4, binM_run, unM_run, tB_run, bB_bl, chainM_run, chK_t, chK_f, truM_run, andM_run, orM_run, notM_run, andT_run, orT_run, notT_run, ifM_run, cM_run, varM_run, varK_ok, yesT_run, addD_int, subD_int, negD_int, ltD_int, leD_int, gtD_int, geD_int, eqD_int, eqD_bl, eqD_str, neD_int, neD_bl, isnD_non, isnD_int, isnD_bl, isnD_str, isnD_tup, isnD_ptr, isbD_bl, notbD_bl, truD_bl, and_bl, or_bl, and_tt, or_tt, fun1_run, fun2_run, intD_int, intD_bl, absD_int, gcdD_int, lenD_tup, ixS_int, ixD_tup, ixD_flst, atK_some, at0, at1, at2, at3, on_ok, srcM_run, srcA_run, srcD_str, srcD_tup, srcD_flst, guard_none, List.map_cons, List.map_nil, List.length_cons, List.length_nil, Nat.reduceAdd, Nat.reduceSub, Nat.sub_self, List.replicate_succ, List.replicate_zero, List.append_nil, List.nil_append, List.cons_append, List.getElem?_cons_zero, List.getElem?_cons_succ, List.set_cons_zero, List.set_cons_succ, if_true, Bool.not_true, Bool.not_false, Bool.false_eq_true, if_false, Bool.true_and, Bool.false_and, Bool.and_true, Bool.and_false, Bool.true_or, Bool.false_or, Bool.or_true, Bool.or_false, q, decide_true, Bool.false_and, List.headD_cons]
          · simp only [fnM_run, startE, seqS_run, setS_run, dropS_run, retS_run, nxS_run, ifS_run, asgS_run, parS_run, forS_run, gNm_run, gNilM_run, gConsM_run, gTup2, gTup3, gSubM_run, seqK_nx, seqK_rt, seqK_bk, seqK_ct, outM_rt, outM_nx, lenM0, lenM1, lenM2, lenM3, lenM4, lenM5, callM_run, consA_run, nilA_run, tupM_run, lstM_run, tupK_1, tupK_2, tupK_3, tupK_4, binM_run, unM_run, tB_run, bB_bl, chainM_run, chK_t, chK_f, truM_run, andM_run, orM_run, notM_run, andT_run, orT_run, notT_run, ifM_run, cM_run, varM_run, varK_ok, yesT_run, addD_int, subD_int, negD_int, ltD_int, leD_int, gtD_int, geD_int, eqD_int, eqD_bl, eqD_str, neD_int, neD_bl, isnD_non, isnD_int, isnD_bl, isnD_str, isnD_tup, isnD_ptr, isbD_bl, notbD_bl, truD_bl, and_bl, or_bl, and_tt, or_tt, fun1_run, fun2_run, intD_int, intD_bl, absD_int, gcdD_int, lenD_tup, ixS_int, ixD_tup, ixD_flst, atK_some, at0, at1, at2, at3, on_ok, srcM_run, srcA_run, srcD_str, srcD_tup, srcD_flst, guard_none, List.map_cons, List.map_nil, List.length_cons, List.length_nil, Nat.reduceAdd, Nat.reduceSub, Nat.sub_self, List.replicate_succ, List.replicate_zero, List.append_nil, List.nil_append, List.cons_append, List.getElem?_cons_zero, List.getElem?_cons_succ, List.set_cons_zero, List.set_cons_succ, if_true, Bool.not_true, Bool.not_false, Bool.false_eq_true, if_false, Bool.true_and, Bool.false_and, Bool.and_true, Bool.and_false, Bool.true_or, Bool.false_or, Bool.or_true, Bool.or_false, q, decide_false, Bool.true_and, List.headD_cons]
            rw [leD_str, ez, ec, lex1]
            congr)
        rw [e]
        unfold signsOf
        rw [List.map_map, List.map_map]
        rfl
      have ha : allD (.ptr s.length) (s ++ [.lst ((x.cps.toList.map signOk).map D.bl)]) = .ok (.bl ((x.cps.toList.map signOk).all id)) (s ++ [.lst ((x.cps.toList.map signOk).map D.bl)]) := all_new
      simp only [fnM_run, startE, seqS_run, setS_run, dropS_run, retS_run, nxS_run, ifS_run, asgS_run, parS_run, forS_run, gNm_run, gNilM_run, gConsM_run, gTup2, gTup3, gSubM_run, seqK_nx, seqK_rt, seqK_bk, seqK_ct, outM_rt, outM_nx, lenM0, lenM1, lenM2, lenM3, lenM4, lenM5, callM_run, consA_run, nilA_run, tupM_run, lstM_run, tupK_1, tupK_2, tupK_3, tupK_4, binM_run, unM_run, tB_run, bB_bl, chainM_run, chK_t, chK_f, truM_run, andM_run, orM_run, notM_run, andT_run, orT_run, notT_run, ifM_run, cM_run, varM_run, varK_ok, yesT_run, addD_int, subD_int, negD_int, ltD_int, leD_int, gtD_int, geD_int, eqD_int, eqD_bl, eqD_str, neD_int, neD_bl, isnD_non, isnD_int, isnD_bl, isnD_str, isnD_tup, isnD_ptr, isbD_bl, notbD_bl, truD_bl, and_bl, or_bl, and_tt, or_tt, fun1_run, fun2_run, intD_int, intD_bl, absD_int, gcdD_int, lenD_tup, ixS_int, ixD_tup, ixD_flst, atK_some, at0, at1, at2, at3, on_ok, srcM_run, srcA_run, srcD_str, srcD_tup, srcD_flst, guard_none, List.map_cons, List.map_nil, List.length_cons, List.length_nil, Nat.reduceAdd, Nat.reduceSub, Nat.sub_self, List.replicate_succ, List.replicate_zero, List.append_nil, List.nil_append, List.cons_append, List.getElem?_cons_zero, List.getElem?_cons_succ, List.set_cons_zero, List.set_cons_succ, if_true, Bool.not_true, Bool.not_false, Bool.false_eq_true, if_false, Bool.true_and, Bool.false_and, Bool.and_true, Bool.and_false, Bool.true_or, Bool.false_or, Bool.or_true, Bool.or_false, isi_ss, lenD_str hx, h1, h2, decide_true, compM_run, szM_run hl, wipeE, hc ⟨signsOf x, none⟩ trivial, ha, List.all_map, Bool.true_and]
      rfl
    · exact ⟨[], by simp only [fnM_run, startE, seqS_run, setS_run, dropS_run, retS_run, nxS_run, ifS_run, asgS_run, parS_run, forS_run, gNm_run, gNilM_run, gConsM_run, gTup2, gTup3, gSubM_run, seqK_nx, seqK_rt, seqK_bk, seqK_ct, outM_rt, outM_nx, lenM0, lenM1, lenM2, lenM3, lenM4, lenM5, callM_run, consA_run, nilA_run, tupM_run, lstM_run, tupK_1, tupK_2, tupK_3, tupK_4, binM_run, unM_run, tB_run, bB_bl, chainM_run, chK_t, chK_f, truM_run, andM_run, orM_run, notM_run, andT_run, orT_run, notT_run, ifM_run, cM_run, varM_run, varK_ok, yesT_run, addD_int, subD_int, negD_int, ltD_int, leD_int, gtD_int, geD_int, eqD_int, eqD_bl, eqD_str, neD_int, neD_bl, isnD_non, isnD_int, isnD_bl, isnD_str, isnD_tup, isnD_ptr, isbD_bl, notbD_bl, truD_bl, and_bl, or_bl, and_tt, or_tt, fun1_run, fun2_run, intD_int, intD_bl, absD_int, gcdD_int, lenD_tup, ixS_int, ixD_tup, ixD_flst, atK_some, at0, at1, at2, at3, on_ok, srcM_run, srcA_run, srcD_str, srcD_tup, srcD_flst, guard_none, List.map_cons, List.map_nil, List.length_cons, List.length_nil, Nat.reduceAdd, Nat.reduceSub, Nat.sub_self, List.replicate_succ, List.replicate_zero, List.append_nil, List.nil_append, List.cons_append, List.getElem?_cons_zero, List.getElem?_cons_succ, List.set_cons_zero, List.set_cons_succ, if_true, Bool.not_true, Bool.not_false, Bool.false_eq_true, if_false, Bool.true_and, Bool.false_and, Bool.and_true, Bool.and_false, Bool.true_or, Bool.false_or, Bool.or_true, Bool.or_false, isi_ss, lenD_str hx, h1, h2, decide_true, decide_false, Bool.false_and, Bool.true_and]⟩
  · exact ⟨[], by simp only [fnM_run, startE, seqS_run, setS_run, dropS_run, retS_run, nxS_run, ifS_run, asgS_run, parS_run, forS_run, gNm_run, gNilM_run, gConsM_run, gTup2, gTup3, gSubM_run, seqK_nx, seqK_rt, seqK_bk, seqK_ct, outM_rt, outM_nx, lenM0, lenM1, lenM2, lenM3, lenM4, lenM5, callM_run, consA_run, nilA_run, tupM_run, lstM_run, tupK_1, tupK_2, tupK_3, tupK_4, binM_run, unM_run, tB_run, bB_bl, chainM_run, chK_t, chK_f, truM_run, andM_run, orM_run, notM_run, andT_run, orT_run, notT_run, ifM_run, cM_run, varM_run, varK_ok, yesT_run, addD_int, subD_int, negD_int, ltD_int, leD_int, gtD_int, geD_int, eqD_int, eqD_bl, eqD_str, neD_int, neD_bl, isnD_non, isnD_int, isnD_bl, isnD_str, isnD_tup, isnD_ptr, isbD_bl, notbD_bl, truD_bl, and_bl, or_bl, and_tt, or_tt, fun1_run, fun2_run, intD_int, intD_bl, absD_int, gcdD_int, lenD_tup, ixS_int, ixD_tup, ixD_flst, atK_some, at0, at1, at2, at3, on_ok, srcM_run, srcA_run, srcD_str, srcD_tup, srcD_flst, guard_none, List.map_cons, List.map_nil, List.length_cons, List.length_nil, Nat.reduceAdd, Nat.reduceSub, Nat.sub_self, List.replicate_succ, List.replicate_zero, List.append_nil, List.nil_append, List.cons_append, List.getElem?_cons_zero, List.getElem?_cons_succ, List.set_cons_zero, List.set_cons_succ, if_true, Bool.not_true, Bool.not_false, Bool.false_eq_true, if_false, Bool.true_and, Bool.false_and, Bool.and_true, Bool.and_false, Bool.true_or, Bool.false_or, Bool.or_true, Bool.or_false, isi_ss, lenD_str hx, h1, decide_false, Bool.false_and]⟩
theorem run_coord {i lo hi : Int} {s : S} : F_is_whole [.int i, .int lo, .int hi] s = .ok (.bl (decide (lo ≤ i) && decide (i ≤ hi))) s := by
  unfold F_is_whole m_is_whole
  by_cases h : lo ≤ i
  · simp only [fnM_run, startE, seqS_run, setS_run, dropS_run, retS_run, nxS_run, ifS_run, asgS_run, parS_run, forS_run, gNm_run, gNilM_run, gConsM_run, gTup2, gTup3, gSubM_run, seqK_nx, seqK_rt, seqK_bk, seqK_ct, outM_rt, outM_nx, lenM0, lenM1, lenM2, lenM3, lenM4, lenM5, callM_run, consA_run, nilA_run, tupM_run, lstM_run, tupK_1, tupK_2, tupK_3, tupK_4, binM_run, unM_run, tB_run, bB_bl, chainM_run, chK_t, chK_f, truM_run, andM_run, orM_run, notM_run, andT_run, orT_run, notT_run, ifM_run, cM_run, varM_run, varK_ok, yesT_run, addD_int, subD_int, negD_int, ltD_int, leD_int, gtD_int, geD_int, eqD_int, eqD_bl, eqD_str, neD_int, neD_bl, isnD_non, isnD_int, isnD_bl, isnD_str, isnD_tup, isnD_ptr, isbD_bl, notbD_bl, truD_bl, and_bl, or_bl, and_tt, or_tt, fun1_run, fun2_run, intD_int, intD_bl, absD_int, gcdD_int, lenD_tup, ixS_int, ixD_tup, ixD_flst, atK_some, at0, at1, at2, at3, on_ok, srcM_run, srcA_run, srcD_str, srcD_tup, srcD_flst, guard_none, List.map_cons, List.map_nil, List.length_cons, List.length_nil, Nat.reduceAdd, Nat.reduceSub, Nat.sub_self, List.replicate_succ, List.replicate_zero, List.append_nil, List.nil_append, List.cons_append, List.getElem?_cons_zero, List.getElem?_cons_succ, List.set_cons_zero, List.set_cons_succ, if_true, Bool.not_true, Bool.not_false, Bool.false_eq_true, if_false, Bool.true_and, Bool.false_and, Bool.and_true, Bool.and_false, Bool.true_or, Bool.false_or, Bool.or_true, Bool.or_false, isi_ii, isi_ib, h, decide_true, Bool.true_and]
  · simp only [fnM_run, startE, seqS_run, setS_run, dropS_run, retS_run, nxS_run, ifS_run, asgS_run, parS_run, forS_run, gNm_run, gNilM_run, gConsM_run, gTup2, gTup3, gSubM_run, seqK_nx, seqK_rt, seqK_bk, seqK_ct, outM_rt, outM_nx, lenM0, lenM1, lenM2, lenM3, lenM4, lenM5, callM_run, consA_run, nilA_run, tupM_run, lstM_run, tupK_1, tupK_2, tupK_3, tupK_4, binM_run, unM_run, tB_run, bB_bl, chainM_run, chK_t, chK_f, truM_run, andM_run, orM_run, notM_run, andT_run, orT_run, notT_run, ifM_run, cM_run, varM_run, varK_ok, yesT_run, addD_int, subD_int, negD_int, ltD_int, leD_int, gtD_int, geD_int, eqD_int, eqD_bl, eqD_str, neD_int, neD_bl, isnD_non, isnD_int, isnD_bl, isnD_str, isnD_tup, isnD_ptr, isbD_bl, notbD_bl, truD_bl, and_bl, or_bl, and_tt, or_tt, fun1_run, fun2_run, intD_int, intD_bl, absD_int, gcdD_int, lenD_tup, ixS_int, ixD_tup, ixD_flst, atK_some, at0, at1, at2, at3, on_ok, srcM_run, srcA_run, srcD_str, srcD_tup, srcD_flst, guard_none, List.map_cons, List.map_nil, List.length_cons, List.length_nil, Nat.reduceAdd, Nat.reduceSub, Nat.sub_self, List.replicate_succ, List.replicate_zero, List.append_nil, List.nil_append, List.cons_append, List.getElem?_cons_zero, List.getElem?_cons_succ, List.set_cons_zero, List.set_cons_succ, if_true, Bool.not_true, Bool.not_false, Bool.false_eq_true, if_false, Bool.true_and, Bool.false_and, Bool.and_true, Bool.and_false, Bool.true_or, Bool.false_or, Bool.or_true, Bool.or_false, isi_ii, isi_ib, h, decide_false, Bool.false_and]
theorem run_coord_bl {b : Bool} {lo hi : Int} {s : S} : F_is_whole [.bl b, .int lo, .int hi] s = .ok (.bl false) s := by
  unfold F_is_whole m_is_whole
  simp only [fnM_run, startE, seqS_run, setS_run, dropS_run, retS_run, nxS_run, ifS_run, asgS_run, parS_run, forS_run, gNm_run, gNilM_run, gConsM_run, gTup2, gTup3, gSubM_run, seqK_nx, seqK_rt, seqK_bk, seqK_ct, outM_rt, outM_nx, lenM0, lenM1, lenM2, lenM3, lenM4, lenM5, callM_run, consA_run, nilA_run, tupM_run, lstM_run, tupK_1, tupK_2, tupK_3, tupK_4, binM_run, unM_run, tB_run, bB_bl, chainM_run, chK_t, chK_f, truM_run, andM_run, orM_run, notM_run, andT_run, orT_run, notT_run, ifM_run, cM_run, varM_run, varK_ok, yesT_run, addD_int, subD_int, negD_int, ltD_int, leD_int, gtD_int, geD_int, eqD_int, eqD_bl, eqD_str, neD_int, neD_bl, isnD_non, isnD_int, isnD_bl, isnD_str, isnD_tup, isnD_ptr, isbD_bl, notbD_bl, truD_bl, and_bl, or_bl, and_tt, or_tt, fun1_run, fun2_run, intD_int, intD_bl, absD_int, gcdD_int, lenD_tup, ixS_int, ixD_tup, ixD_flst, atK_some, at0, at1, at2, at3, on_ok, srcM_run, srcA_run, srcD_str, srcD_tup, srcD_flst, guard_none, List.map_cons, List.map_nil, List.length_cons, List.length_nil, Nat.reduceAdd, Nat.reduceSub, Nat.sub_self, List.replicate_succ, List.replicate_zero, List.append_nil, List.nil_append, List.cons_append, List.getElem?_cons_zero, List.getElem?_cons_succ, List.set_cons_zero, List.set_cons_succ, if_true, Bool.not_true, Bool.not_false, Bool.false_eq_true, if_false, Bool.true_and, Bool.false_and, Bool.and_true, Bool.and_false, Bool.true_or, Bool.false_or, Bool.or_true, Bool.or_false, isi_bi, isi_bb]
theorem run_coord_str {b : Str} {lo hi : Int} {s : S} : F_is_whole [.str b, .int lo, .int hi] s = .ok (.bl false) s := by
  unfold F_is_whole m_is_whole
  simp only [fnM_run, startE, seqS_run, setS_run, dropS_run, retS_run, nxS_run, ifS_run, asgS_run, parS_run, forS_run, gNm_run, gNilM_run, gConsM_run, gTup2, gTup3, gSubM_run, seqK_nx, seqK_rt, seqK_bk, seqK_ct, outM_rt, outM_nx, lenM0, lenM1, lenM2, lenM3, lenM4, lenM5, callM_run, consA_run, nilA_run, tupM_run, lstM_run, tupK_1, tupK_2, tupK_3, tupK_4, binM_run, unM_run, tB_run, bB_bl, chainM_run, chK_t, chK_f, truM_run, andM_run, orM_run, notM_run, andT_run, orT_run, notT_run, ifM_run, cM_run, varM_run, varK_ok, yesT_run, addD_int, subD_int, negD_int, ltD_int, leD_int, gtD_int, geD_int, eqD_int, eqD_bl, eqD_str, neD_int, neD_bl, isnD_non, isnD_int, isnD_bl, isnD_str, isnD_tup, isnD_ptr, isbD_bl, notbD_bl, truD_bl, and_bl, or_bl, and_tt, or_tt, fun1_run, fun2_run, intD_int, intD_bl, absD_int, gcdD_int, lenD_tup, ixS_int, ixD_tup, ixD_flst, atK_some, at0, at1, at2, at3, on_ok, srcM_run, srcA_run, srcD_str, srcD_tup, srcD_flst, guard_none, List.map_cons, List.map_nil, List.length_cons, List.length_nil, Nat.reduceAdd, Nat.reduceSub, Nat.sub_self, List.replicate_succ, List.replicate_zero, List.append_nil, List.nil_append, List.cons_append, List.getElem?_cons_zero, List.getElem?_cons_succ, List.set_cons_zero, List.set_cons_succ, if_true, Bool.not_true, Bool.not_false, Bool.false_eq_true, if_false, Bool.true_and, Bool.false_and, Bool.and_true, Bool.and_false, Bool.true_or, Bool.false_or, Bool.or_true, Bool.or_false, isi_si]

theorem gcd_loop : ∀ (ds : List D) (r : Src) (a b : Int) (k : Option D) (s : S), r.cell = none → 0 ≤ b → ∃ o : Out, loopM r (gNm 2) (seqS (ifS (tB (binM eqD (varM 1) (cM (.int 0)))) (retS (callM (fun1 absD) (consA (varM 0) nilA))) nxS)
    (parS 0 1 (varM 1) (binM modD (callM (fun1 intD) (consA (varM 0) nilA)) (varM 1)))) ds [some (.int a), some (.int b), k] s = .ok o s ∧ (o = .rt (.int (euc ds.length a b)) ∨ (euc ds.length a b = 1 ∧ ∃ e, o = .nx e))
  | [], r, a, b, k, s, hr, hb => by
    refine ⟨.nx [some (.int a), some (.int b), k], ?_, .inr ⟨rfl, _, rfl⟩⟩
    have ok : r.Ok s := by unfold Src.Ok; rw [hr]; trivial
    rw [loop_nil, guard_pos ok]
    rfl
  | d :: ds, r, a, b, k, s, hr, hb => by
    have ok : r.Ok s := by unfold Src.Ok; rw [hr]; trivial
    by_cases hz : b = 0
    · refine ⟨.rt (.int (if a < 0 then -a else a)), ?_, .inl ?_⟩
      · rw [loop_cons, guard_pos ok]
        simp only [fnM_run, startE, seqS_run, setS_run, dropS_run, retS_run, nxS_run, ifS_run, asgS_run, parS_run, forS_run, gNm_run, gNilM_run, gConsM_run, gTup2, gTup3, gSubM_run, seqK_nx, seqK_rt, seqK_bk, seqK_ct, outM_rt, outM_nx, lenM0, lenM1, lenM2, lenM3, lenM4, lenM5, callM_run, consA_run, nilA_run, tupM_run, lstM_run, tupK_1, tupK_2, tupK_3, tupK_4, binM_run, unM_run, tB_run, bB_bl, chainM_run, chK_t, chK_f, truM_run, andM_run, orM_run, notM_run, andT_run, orT_run, notT_run, ifM_run, cM_run, varM_run, varK_ok, yesT_run, addD_int, subD_int, negD_int, ltD_int, leD_int, gtD_int, geD_int, eqD_int, eqD_bl, eqD_str, neD_int, neD_bl, isnD_non, isnD_int, isnD_bl, isnD_str, isnD_tup, isnD_ptr, isbD_bl, notbD_bl, truD_bl, and_bl, or_bl, and_tt, or_tt, fun1_run, fun2_run, intD_int, intD_bl, absD_int, gcdD_int, lenD_tup, ixS_int, ixD_tup, ixD_flst, atK_some, at0, at1, at2, at3, on_ok, srcM_run, srcA_run, srcD_str, srcD_tup, srcD_flst, guard_none, List.map_cons, List.map_nil, List.length_cons, List.length_nil, Nat.reduceAdd, Nat.reduceSub, Nat.sub_self, List.replicate_succ, List.replicate_zero, List.append_nil, List.nil_append, List.cons_append, List.getElem?_cons_zero, List.getElem?_cons_succ, List.set_cons_zero, List.set_cons_succ, if_true, Bool.not_true, Bool.not_false, Bool.false_eq_true, if_false, Bool.true_and, Bool.false_and, Bool.and_true, Bool.and_false, Bool.true_or, Bool.false_or, Bool.or_true, Bool.or_false, hz, decide_true]
        rfl
      · show _ = Out.rt (.int (euc (ds.length + 1) a b))
        unfold euc
        rw [if_pos hz]
    · obtain ⟨o, h1, h2⟩ := gcd_loop ds r b (a % b) (some d) s hr (Int.emod_nonneg _ hz)
      refine ⟨o, ?_, ?_⟩
      · rw [loop_cons, guard_pos ok]
        simp only [fnM_run, startE, seqS_run, setS_run, dropS_run, retS_run, nxS_run, ifS_run, asgS_run, parS_run, forS_run, gNm_run, gNilM_run, gConsM_run, gTup2, gTup3, gSubM_run, seqK_nx, seqK_rt, seqK_bk, seqK_ct, outM_rt, outM_nx, lenM0, lenM1, lenM2, lenM3, lenM4, lenM5, callM_run, consA_run, nilA_run, tupM_run, lstM_run, tupK_1, tupK_2, tupK_3, tupK_4, binM_run, unM_run, tB_run, bB_bl, chainM_run, chK_t, chK_f, truM_run, andM_run, orM_run, notM_run, andT_run, orT_run, notT_run, ifM_run, cM_run, varM_run, varK_ok, yesT_run, addD_int, subD_int, negD_int, ltD_int, leD_int, gtD_int, geD_int, eqD_int, eqD_bl, eqD_str, neD_int, neD_bl, isnD_non, isnD_int, isnD_bl, isnD_str, isnD_tup, isnD_ptr, isbD_bl, notbD_bl, truD_bl, and_bl, or_bl, and_tt, or_tt, fun1_run, fun2_run, intD_int, intD_bl, absD_int, gcdD_int, lenD_tup, ixS_int, ixD_tup, ixD_flst, atK_some, at0, at1, at2, at3, on_ok, srcM_run, srcA_run, srcD_str, srcD_tup, srcD_flst, guard_none, List.map_cons, List.map_nil, List.length_cons, List.length_nil, Nat.reduceAdd, Nat.reduceSub, Nat.sub_self, List.replicate_succ, List.replicate_zero, List.append_nil, List.nil_append, List.cons_append, List.getElem?_cons_zero, List.getElem?_cons_succ, List.set_cons_zero, List.set_cons_succ, if_true, Bool.not_true, Bool.not_false, Bool.false_eq_true, if_false, Bool.true_and, Bool.false_and, Bool.and_true, Bool.and_false, Bool.true_or, Bool.false_or, Bool.or_true, Bool.or_false, hz, decide_false, modD_pos (show 0 < b by omega)]
        exact h1
      · show o = Out.rt (.int (euc (ds.length + 1) a b)) ∨ (euc (ds.length + 1) a b = 1 ∧ _)
        unfold euc
        rw [if_neg hz]
        exact h2

def Nm (b c : Int) (n d : Int) : Prop := (-b ≤ n ∧ n ≤ b) ∧ 1 ≤ d ∧ d ≤ c
theorem Nm.more {b c b' c' n d : Int} (h : Nm b c n d) (hb : b ≤ b') (hc : c ≤ c') : Nm b' c' n d := by
  unfold Nm at *
  omega
theorem Nm.bt {n d : Int} (h : Nm 240 64 n d) : Bt 2000 n ∧ Bt 2000 d := by
  unfold Nm at h
  exact ⟨Bt.mono (m := 8) (show n.natAbs < 2 ^ 8 by omega) (by decide), Bt.mono (m := 8) (show d.natAbs < 2 ^ 8 by omega) (by decide)⟩
theorem rat_nm {n d b c : Int} (h : Nm b c n d) : Nm b c (rat n d).1 (rat n d).2 := by
  unfold Nm at h
  have hd : d ≠ 0 := by omega
  have hc : ratC n d = ((Nat.gcd n.natAbs d.natAbs : Nat) : Int) := by
    unfold ratC
    rw [if_neg (by omega)]
  have hg := gcd_pos (n := n) hd
  have e1 := rat_n n d
  have e2 := rat_d n d
  rw [hc] at e1 e2
  obtain ⟨g, eg⟩ : ∃ g : Int, g = ((Nat.gcd n.natAbs d.natAbs : Nat) : Int) := ⟨_, rfl⟩
  rw [← eg] at e1 e2
  have g1 : 1 ≤ g := by omega
  have p := rat_pos (n := n) hd
  obtain ⟨x, ex⟩ : ∃ x : Int, x = (rat n d).1 := ⟨_, rfl⟩
  obtain ⟨y, ey⟩ : ∃ y : Int, y = (rat n d).2 := ⟨_, rfl⟩
  rw [← ex] at e1
  rw [← ey] at e2 p
  unfold Nm
  rw [← ex, ← ey]
  have h1 : y ≤ g * y := by
    have := Int.mul_le_mul_of_nonneg_right g1 (Int.le_of_lt p)
    rw [Int.one_mul] at this
    exact this
  by_cases hx : 0 ≤ x
  · have h2 : x ≤ g * x := by
      have := Int.mul_le_mul_of_nonneg_right g1 hx
      rw [Int.one_mul] at this
      exact this
    omega
  · have h2 : -x ≤ g * -x := by
      have := Int.mul_le_mul_of_nonneg_right g1 (show 0 ≤ -x by omega)
      rw [Int.one_mul] at this
      exact this
    rw [Int.mul_neg] at h2
    omega
theorem run_gcd {a b : Int} {s : S} (h0 : 0 ≤ b) (hb : b < 2 ^ 29) : F__law_gcd [.int a, .int b] s = .ok (.int ((Nat.gcd a.natAbs b.natAbs : Nat) : Int)) s := by
  unfold F__law_gcd m__law_gcd
  obtain ⟨o, h1, h2⟩ := gcd_loop (rngItems 0 60) ⟨rngItems 0 60, none⟩ a b none s rfl h0
  rw [rng_len] at h2
  have he := euc_ok 29 a b 60 h0 hb (by decide)
  rw [he] at h2
  simp only [fnM_run, startE, seqS_run, setS_run, dropS_run, retS_run, nxS_run, ifS_run, asgS_run, parS_run, forS_run, gNm_run, gNilM_run, gConsM_run, gTup2, gTup3, gSubM_run, seqK_nx, seqK_rt, seqK_bk, seqK_ct, outM_rt, outM_nx, lenM0, lenM1, lenM2, lenM3, lenM4, lenM5, callM_run, consA_run, nilA_run, tupM_run, lstM_run, tupK_1, tupK_2, tupK_3, tupK_4, binM_run, unM_run, tB_run, bB_bl, chainM_run, chK_t, chK_f, truM_run, andM_run, orM_run, notM_run, andT_run, orT_run, notT_run, ifM_run, cM_run, varM_run, varK_ok, yesT_run, addD_int, subD_int, negD_int, ltD_int, leD_int, gtD_int, geD_int, eqD_int, eqD_bl, eqD_str, neD_int, neD_bl, isnD_non, isnD_int, isnD_bl, isnD_str, isnD_tup, isnD_ptr, isbD_bl, notbD_bl, truD_bl, and_bl, or_bl, and_tt, or_tt, fun1_run, fun2_run, intD_int, intD_bl, absD_int, gcdD_int, lenD_tup, ixS_int, ixD_tup, ixD_flst, atK_some, at0, at1, at2, at3, on_ok, srcM_run, srcA_run, srcD_str, srcD_tup, srcD_flst, guard_none, List.map_cons, List.map_nil, List.length_cons, List.length_nil, Nat.reduceAdd, Nat.reduceSub, Nat.sub_self, List.replicate_succ, List.replicate_zero, List.append_nil, List.nil_append, List.cons_append, List.getElem?_cons_zero, List.getElem?_cons_succ, List.set_cons_zero, List.set_cons_succ, if_true, Bool.not_true, Bool.not_false, Bool.false_eq_true, if_false, Bool.true_and, Bool.false_and, Bool.and_true, Bool.and_false, Bool.true_or, Bool.false_or, Bool.or_true, Bool.or_false, rng1_run (show -4000000000 ≤ (60 : Int) ∧ (60 : Int) ≤ 4000000000 by decide), show (60 : Int).toNat = 60 from rfl, h1]
  rcases h2 with rfl | ⟨h2, e, rfl⟩
  · simp only [fnM_run, startE, seqS_run, setS_run, dropS_run, retS_run, nxS_run, ifS_run, asgS_run, parS_run, forS_run, gNm_run, gNilM_run, gConsM_run, gTup2, gTup3, gSubM_run, seqK_nx, seqK_rt, seqK_bk, seqK_ct, outM_rt, outM_nx, lenM0, lenM1, lenM2, lenM3, lenM4, lenM5, callM_run, consA_run, nilA_run, tupM_run, lstM_run, tupK_1, tupK_2, tupK_3, tupK_4, binM_run, unM_run, tB_run, bB_bl, chainM_run, chK_t, chK_f, truM_run, andM_run, orM_run, notM_run, andT_run, orT_run, notT_run, ifM_run, cM_run, varM_run, varK_ok, yesT_run, addD_int, subD_int, negD_int, ltD_int, leD_int, gtD_int, geD_int, eqD_int, eqD_bl, eqD_str, neD_int, neD_bl, isnD_non, isnD_int, isnD_bl, isnD_str, isnD_tup, isnD_ptr, isbD_bl, notbD_bl, truD_bl, and_bl, or_bl, and_tt, or_tt, fun1_run, fun2_run, intD_int, intD_bl, absD_int, gcdD_int, lenD_tup, ixS_int, ixD_tup, ixD_flst, atK_some, at0, at1, at2, at3, on_ok, srcM_run, srcA_run, srcD_str, srcD_tup, srcD_flst, guard_none, List.map_cons, List.map_nil, List.length_cons, List.length_nil, Nat.reduceAdd, Nat.reduceSub, Nat.sub_self, List.replicate_succ, List.replicate_zero, List.append_nil, List.nil_append, List.cons_append, List.getElem?_cons_zero, List.getElem?_cons_succ, List.set_cons_zero, List.set_cons_succ, if_true, Bool.not_true, Bool.not_false, Bool.false_eq_true, if_false, Bool.true_and, Bool.false_and, Bool.and_true, Bool.and_false, Bool.true_or, Bool.false_or, Bool.or_true, Bool.or_false]
  · simp only [fnM_run, startE, seqS_run, setS_run, dropS_run, retS_run, nxS_run, ifS_run, asgS_run, parS_run, forS_run, gNm_run, gNilM_run, gConsM_run, gTup2, gTup3, gSubM_run, seqK_nx, seqK_rt, seqK_bk, seqK_ct, outM_rt, outM_nx, lenM0, lenM1, lenM2, lenM3, lenM4, lenM5, callM_run, consA_run, nilA_run, tupM_run, lstM_run, tupK_1, tupK_2, tupK_3, tupK_4, binM_run, unM_run, tB_run, bB_bl, chainM_run, chK_t, chK_f, truM_run, andM_run, orM_run, notM_run, andT_run, orT_run, notT_run, ifM_run, cM_run, varM_run, varK_ok, yesT_run, addD_int, subD_int, negD_int, ltD_int, leD_int, gtD_int, geD_int, eqD_int, eqD_bl, eqD_str, neD_int, neD_bl, isnD_non, isnD_int, isnD_bl, isnD_str, isnD_tup, isnD_ptr, isbD_bl, notbD_bl, truD_bl, and_bl, or_bl, and_tt, or_tt, fun1_run, fun2_run, intD_int, intD_bl, absD_int, gcdD_int, lenD_tup, ixS_int, ixD_tup, ixD_flst, atK_some, at0, at1, at2, at3, on_ok, srcM_run, srcA_run, srcD_str, srcD_tup, srcD_flst, guard_none, List.map_cons, List.map_nil, List.length_cons, List.length_nil, Nat.reduceAdd, Nat.reduceSub, Nat.sub_self, List.replicate_succ, List.replicate_zero, List.append_nil, List.nil_append, List.cons_append, List.getElem?_cons_zero, List.getElem?_cons_succ, List.set_cons_zero, List.set_cons_succ, if_true, Bool.not_true, Bool.not_false, Bool.false_eq_true, if_false, Bool.true_and, Bool.false_and, Bool.and_true, Bool.and_false, Bool.true_or, Bool.false_or, Bool.or_true, Bool.or_false, h2]
theorem run_low {n d : Int} {s : S} (h0 : 0 < d) (hb : d < 536870912) : F__law_low [.int n, .int d] s = .ok (num (rat n d).1 (rat n d).2) s := by
  have hc : ratC n d = ((Nat.gcd n.natAbs d.natAbs : Nat) : Int) := by
    unfold ratC
    rw [if_neg (by omega)]
  have hd : d ≠ 0 := by omega
  have hn := ratC_ne (n := n) hd
  have bt := ratC_bt (n := n) hd (Bt.mono (m := 29) (n := 9000) (show d.natAbs < 2 ^ 29 by omega) (by decide))
  unfold F__law_low m__law_low
  simp only [fnM_run, startE, seqS_run, setS_run, dropS_run, retS_run, nxS_run, ifS_run, asgS_run, parS_run, forS_run, gNm_run, gNilM_run, gConsM_run, gTup2, gTup3, gSubM_run, seqK_nx, seqK_rt, seqK_bk, seqK_ct, outM_rt, outM_nx, lenM0, lenM1, lenM2, lenM3, lenM4, lenM5, callM_run, consA_run, nilA_run, tupM_run, lstM_run, tupK_1, tupK_2, tupK_3, tupK_4, binM_run, unM_run, tB_run, bB_bl, chainM_run, chK_t, chK_f, truM_run, andM_run, orM_run, notM_run, andT_run, orT_run, notT_run, ifM_run, cM_run, varM_run, varK_ok, yesT_run, addD_int, subD_int, negD_int, ltD_int, leD_int, gtD_int, geD_int, eqD_int, eqD_bl, eqD_str, neD_int, neD_bl, isnD_non, isnD_int, isnD_bl, isnD_str, isnD_tup, isnD_ptr, isbD_bl, notbD_bl, truD_bl, and_bl, or_bl, and_tt, or_tt, fun1_run, fun2_run, intD_int, intD_bl, absD_int, gcdD_int, lenD_tup, ixS_int, ixD_tup, ixD_flst, atK_some, at0, at1, at2, at3, on_ok, srcM_run, srcA_run, srcD_str, srcD_tup, srcD_flst, guard_none, List.map_cons, List.map_nil, List.length_cons, List.length_nil, Nat.reduceAdd, Nat.reduceSub, Nat.sub_self, List.replicate_succ, List.replicate_zero, List.append_nil, List.nil_append, List.cons_append, List.getElem?_cons_zero, List.getElem?_cons_succ, List.set_cons_zero, List.set_cons_succ, if_true, Bool.not_true, Bool.not_false, Bool.false_eq_true, if_false, Bool.true_and, Bool.false_and, Bool.and_true, Bool.and_false, Bool.true_or, Bool.false_or, Bool.or_true, Bool.or_false, run_gcd (a := n) (b := d) (Int.le_of_lt h0) (by omega), ← hc, fdivD_dvd hn bt (ratC_n n d), fdivD_dvd hn bt (ratC_d n d)]
  rfl
theorem bt_small {x : Int} (h0 : -1000000 ≤ x) (h1 : x ≤ 1000000) : Bt 9000 x := Bt.mono (m := 20) (show x.natAbs < 2 ^ 20 by omega) (by decide)
theorem run_number {s : S} (P : PotAt s 1 0) : ∃ n d s', F__law_number [.ptr 1] s = .ok (num n d) s' ∧ PotAt s' 1 0 ∧ Nm 6 4 n d := by
  obtain ⟨v, c, e1, l1, u1, P1⟩ := run_next (l := 13) P (by decide) (bt_small (by decide) (by decide))
  obtain ⟨w, c2, e2, l2, u2, P2⟩ := run_next (l := 4) P1 (by decide) (bt_small (by decide) (by decide))
  refine ⟨_, _, _, ?_, P2, rat_nm (n := v - 6) (d := 1 + w) (by unfold Nm; omega)⟩
  unfold F__law_number m__law_number
  simp only [fnM_run, startE, seqS_run, setS_run, dropS_run, retS_run, nxS_run, ifS_run, asgS_run, parS_run, forS_run, gNm_run, gNilM_run, gConsM_run, gTup2, gTup3, gSubM_run, seqK_nx, seqK_rt, seqK_bk, seqK_ct, outM_rt, outM_nx, lenM0, lenM1, lenM2, lenM3, lenM4, lenM5, callM_run, consA_run, nilA_run, tupM_run, lstM_run, tupK_1, tupK_2, tupK_3, tupK_4, binM_run, unM_run, tB_run, bB_bl, chainM_run, chK_t, chK_f, truM_run, andM_run, orM_run, notM_run, andT_run, orT_run, notT_run, ifM_run, cM_run, varM_run, varK_ok, yesT_run, addD_int, subD_int, negD_int, ltD_int, leD_int, gtD_int, geD_int, eqD_int, eqD_bl, eqD_str, neD_int, neD_bl, isnD_non, isnD_int, isnD_bl, isnD_str, isnD_tup, isnD_ptr, isbD_bl, notbD_bl, truD_bl, and_bl, or_bl, and_tt, or_tt, fun1_run, fun2_run, intD_int, intD_bl, absD_int, gcdD_int, lenD_tup, ixS_int, ixD_tup, ixD_flst, atK_some, at0, at1, at2, at3, on_ok, srcM_run, srcA_run, srcD_str, srcD_tup, srcD_flst, guard_none, List.map_cons, List.map_nil, List.length_cons, List.length_nil, Nat.reduceAdd, Nat.reduceSub, Nat.sub_self, List.replicate_succ, List.replicate_zero, List.append_nil, List.nil_append, List.cons_append, List.getElem?_cons_zero, List.getElem?_cons_succ, List.set_cons_zero, List.set_cons_succ, if_true, Bool.not_true, Bool.not_false, Bool.false_eq_true, if_false, Bool.true_and, Bool.false_and, Bool.and_true, Bool.and_false, Bool.true_or, Bool.false_or, Bool.or_true, Bool.or_false, e1, e2, run_low (n := v - 6) (d := 1 + w) (by omega) (by omega)]
/-- the cross product's sign, as the law works it out -/
def crs (p0 p1 p2 p3 q0 q1 q2 q3 r0 r1 r2 r3 : Int) : Int := sgn ((q0 * p1 - p0 * q1) * (r2 * p3 - p2 * r3) * q3 * r1 - (q2 * p3 - p2 * q3) * (r0 * p1 - p0 * r1) * q1 * r3)
theorem crs_turn {p0 p1 p2 p3 q0 q1 q2 q3 r0 r1 r2 r3 : Int} (h1 : 0 < p1) (h3 : 0 < p3) : sgn ((q0 * p1 - p0 * q1) * (r2 * p3 - p2 * r3) * (p3 * q3) * (p1 * r1) - (q2 * p3 - p2 * q3) * (r0 * p1 - p0 * r1) * (p1 * q1) * (p3 * r3)) = crs p0 p1 p2 p3 q0 q1 q2 q3 r0 r1 r2 r3 := by
  have e : (q0 * p1 - p0 * q1) * (r2 * p3 - p2 * r3) * (p3 * q3) * (p1 * r1) - (q2 * p3 - p2 * q3) * (r0 * p1 - p0 * r1) * (p1 * q1) * (p3 * r3) = ((q0 * p1 - p0 * q1) * (r2 * p3 - p2 * r3) * q3 * r1 - (q2 * p3 - p2 * q3) * (r0 * p1 - p0 * r1) * q1 * r3) * (p1 * p3) := by grind
  rw [e, sgn_pos (Int.mul_pos h1 h3)]
  rfl
theorem run_cross {p0 p1 p2 p3 q0 q1 q2 q3 r0 r1 r2 r3 : Int} {s : S} (hp0 : Bt 2000 p0) (hp1 : Bt 2000 p1) (hp2 : Bt 2000 p2) (hp3 : Bt 2000 p3) (hq0 : Bt 2000 q0) (hq1 : Bt 2000 q1) (hq2 : Bt 2000 q2) (hq3 : Bt 2000 q3) (hr0 : Bt 2000 r0) (hr1 : Bt 2000 r1) (hr2 : Bt 2000 r2) (hr3 : Bt 2000 r3) :
    F__law_cross [pt p0 p1 p2 p3, pt q0 q1 q2 q3, pt r0 r1 r2 r3] s = .ok (.int (crs p0 p1 p2 p3 q0 q1 q2 q3 r0 r1 r2 r3)) s := by
  have m : ∀ {x y : Int}, Bt 2000 x → Bt 2000 y → MulOk x y := fun h k => mk2 h k (by decide) (by decide)
  have s1 := ((hq0.mul hp1).sub (hp0.mul hq1))
  have s2 := ((hr2.mul hp3).sub (hp2.mul hr3))
  have s3 := ((hq2.mul hp3).sub (hp2.mul hq3))
  have s4 := ((hr0.mul hp1).sub (hp0.mul hr1))
  unfold F__law_cross m__law_cross
  simp only [fnM_run, startE, seqS_run, setS_run, dropS_run, retS_run, nxS_run, ifS_run, asgS_run, parS_run, forS_run, gNm_run, gNilM_run, gConsM_run, gTup2, gTup3, gSubM_run, seqK_nx, seqK_rt, seqK_bk, seqK_ct, outM_rt, outM_nx, lenM0, lenM1, lenM2, lenM3, lenM4, lenM5, callM_run, consA_run, nilA_run, tupM_run, lstM_run, tupK_1, tupK_2, tupK_3, tupK_4, binM_run, unM_run, tB_run, bB_bl, chainM_run, chK_t, chK_f, truM_run, andM_run, orM_run, notM_run, andT_run, orT_run, notT_run, ifM_run, cM_run, varM_run, varK_ok, yesT_run, addD_int, subD_int, negD_int, ltD_int, leD_int, gtD_int, geD_int, eqD_int, eqD_bl, eqD_str, neD_int, neD_bl, isnD_non, isnD_int, isnD_bl, isnD_str, isnD_tup, isnD_ptr, isbD_bl, notbD_bl, truD_bl, and_bl, or_bl, and_tt, or_tt, fun1_run, fun2_run, intD_int, intD_bl, absD_int, gcdD_int, lenD_tup, ixS_int, ixD_tup, ixD_flst, atK_some, at0, at1, at2, at3, on_ok, srcM_run, srcA_run, srcD_str, srcD_tup, srcD_flst, guard_none, List.map_cons, List.map_nil, List.length_cons, List.length_nil, Nat.reduceAdd, Nat.reduceSub, Nat.sub_self, List.replicate_succ, List.replicate_zero, List.append_nil, List.nil_append, List.cons_append, List.getElem?_cons_zero, List.getElem?_cons_succ, List.set_cons_zero, List.set_cons_succ, if_true, Bool.not_true, Bool.not_false, Bool.false_eq_true, if_false, Bool.true_and, Bool.false_and, Bool.and_true, Bool.and_false, Bool.true_or, Bool.false_or, Bool.or_true, Bool.or_false, mulD_int (m hq0 hp1), mulD_int (m hp0 hq1), mulD_int (m hr2 hp3), mulD_int (m hp2 hr3), mulD_int (m hq2 hp3), mulD_int (m hp2 hq3), mulD_int (m hr0 hp1), mulD_int (m hp0 hr1),
    mulD_int (mk2 s1 s2 (by decide) (by decide)), mulD_int (mk2 (s1.mul s2) hq3 (by decide) (by decide)), mulD_int (mk2 ((s1.mul s2).mul hq3) hr1 (by decide) (by decide)),
    mulD_int (mk2 s3 s4 (by decide) (by decide)), mulD_int (mk2 (s3.mul s4) hq1 (by decide) (by decide)), mulD_int (mk2 ((s3.mul s4).mul hq1) hr3 (by decide) (by decide)), sgn_int]
  rfl
theorem run_lbetween {p0 p1 q0 q1 r0 r1 : Int} {s : S} (hp0 : Bt 2000 p0) (hp1 : Bt 2000 p1) (hq0 : Bt 2000 q0) (hq1 : Bt 2000 q1) (hr0 : Bt 2000 r0) (hr1 : Bt 2000 r1) :
    F__law_between [num p0 p1, num r0 r1, num q0 q1] s = .ok (.bl ((decide (p0 * r1 ≤ r0 * p1) && decide (r0 * q1 ≤ q0 * r1)) || (decide (r0 * p1 ≤ p0 * r1) && decide (q0 * r1 ≤ r0 * q1)))) s := by
  have m : ∀ {x y : Int}, Bt 2000 x → Bt 2000 y → MulOk x y := fun h k => mk2 h k (by decide) (by decide)
  unfold F__law_between m__law_between
  simp only [fnM_run, startE, seqS_run, setS_run, dropS_run, retS_run, nxS_run, ifS_run, asgS_run, parS_run, forS_run, gNm_run, gNilM_run, gConsM_run, gTup2, gTup3, gSubM_run, seqK_nx, seqK_rt, seqK_bk, seqK_ct, outM_rt, outM_nx, lenM0, lenM1, lenM2, lenM3, lenM4, lenM5, callM_run, consA_run, nilA_run, tupM_run, lstM_run, tupK_1, tupK_2, tupK_3, tupK_4, binM_run, unM_run, tB_run, bB_bl, chainM_run, chK_t, chK_f, truM_run, andM_run, orM_run, notM_run, andT_run, orT_run, notT_run, ifM_run, cM_run, varM_run, varK_ok, yesT_run, addD_int, subD_int, negD_int, ltD_int, leD_int, gtD_int, geD_int, eqD_int, eqD_bl, eqD_str, neD_int, neD_bl, isnD_non, isnD_int, isnD_bl, isnD_str, isnD_tup, isnD_ptr, isbD_bl, notbD_bl, truD_bl, and_bl, or_bl, and_tt, or_tt, fun1_run, fun2_run, intD_int, intD_bl, absD_int, gcdD_int, lenD_tup, ixS_int, ixD_tup, ixD_flst, atK_some, at0, at1, at2, at3, on_ok, srcM_run, srcA_run, srcD_str, srcD_tup, srcD_flst, guard_none, List.map_cons, List.map_nil, List.length_cons, List.length_nil, Nat.reduceAdd, Nat.reduceSub, Nat.sub_self, List.replicate_succ, List.replicate_zero, List.append_nil, List.nil_append, List.cons_append, List.getElem?_cons_zero, List.getElem?_cons_succ, List.set_cons_zero, List.set_cons_succ, if_true, Bool.not_true, Bool.not_false, Bool.false_eq_true, if_false, Bool.true_and, Bool.false_and, Bool.and_true, Bool.and_false, Bool.true_or, Bool.false_or, Bool.or_true, Bool.or_false, mulD_int (m hp0 hr1), mulD_int (m hr0 hp1), mulD_int (m hr0 hq1), mulD_int (m hq0 hr1)]
theorem btw_eq (x y u v : Int) : (if x < y then decide (v ≤ u) else (decide (x ≤ y) || decide (u ≤ v))) = ((decide (y ≤ x) && decide (u ≤ v)) || (decide (x ≤ y) && decide (v ≤ u))) := by
  rw [Bool.eq_iff_iff]
  split <;> simp <;> omega
theorem tuple_new {s : S} {ds : List D} : tupleD (.ptr s.length) (s ++ [.lst ds]) = .ok (.tup ds) (s ++ [.lst ds]) := by
  show (match (s ++ [Cell.lst ds])[s.length]? with
    | some (.lst xs) => R.ok (D.tup xs) (s ++ [Cell.lst ds])
    | _ => .stuck) = _
  rw [new_at]

/-! the law's loop, in pieces -/
noncomputable def REST2 : PL.Env → M Out := (seqS (ifS (notT (truM (callM (lenM 2 (FF__law_same 3)) (consA (callM (lenM 3 F_turn) (consA (varM 5) (consA (varM 6) (consA (varM 7) nilA)))) (consA (callM (lenM 3 F__law_cross) (consA (varM 5) (consA (varM 6) (consA (varM 7) nilA)))) nilA))))) (retS (cM (.bl false))) nxS)
    (seqS (setS 9 (andM (binM eqD (callM (lenM 3 F__law_cross) (consA (varM 5) (consA (varM 6) (consA (varM 7) nilA)))) (cM (.int 0))) (callM (fun1 allD) (consA (compM (srcA rng1D (consA (cM (.int 2)) nilA)) (gNm 11) yesT (callM (lenM 3 F__law_between) (consA (binM ixD (varM 5) (varM 11)) (consA (binM ixD (varM 7) (varM 11)) (consA (binM ixD (varM 6) (varM 11)) nilA)))) [11]) nilA))))
    (ifS (notT (truM (callM (lenM 2 (FF__law_same 3)) (consA (callM (lenM 3 F_on_segment) (consA (varM 7) (consA (varM 5) (consA (varM 6) nilA)))) (consA (varM 9) nilA))))) (retS (cM (.bl false))) nxS)))
noncomputable def REST1 : PL.Env → M Out := (seqS (ifS (tB (binM eqD (callM (lenM 2 F__law_next) (consA (varM 1) (consA (cM (.int 2)) nilA))) (cM (.int 1)))) (setS 7 (callM (fun1 tupleD) (consA (compM (srcA rng1D (consA (cM (.int 2)) nilA)) (gNm 11) yesT (callM (lenM 2 F__law_low) (consA (binM addD (binM mulD (binM mulD (binM ixD (binM ixD (varM 5) (varM 11)) (cM (.int 0))) (binM ixD (binM ixD (varM 6) (varM 11)) (cM (.int 1)))) (binM subD (cM (.int 4)) (varM 8))) (binM mulD (binM mulD (binM ixD (binM ixD (varM 6) (varM 11)) (cM (.int 0))) (binM ixD (binM ixD (varM 5) (varM 11)) (cM (.int 1)))) (varM 8))) (consA (binM mulD (binM mulD (cM (.int 4)) (binM ixD (binM ixD (varM 5) (varM 11)) (cM (.int 1)))) (binM ixD (binM ixD (varM 6) (varM 11)) (cM (.int 1)))) nilA))) [11]) nilA))) nxS)
 REST2)
noncomputable def REST0 : PL.Env → M Out := (seqS (setS 7 (tupM (consA (callM (lenM 1 F__law_number) (consA (varM 1) nilA)) (consA (callM (lenM 1 F__law_number) (consA (varM 1) nilA)) nilA))))
 (seqS (setS 8 (binM subD (callM (lenM 2 F__law_next) (consA (varM 1) (consA (cM (.int 7)) nilA))) (cM (.int 2))))
 REST1))
noncomputable def LAWBODY : PL.Env → M Out := (seqS (setS 5 (tupM (consA (callM (lenM 1 F__law_number) (consA (varM 1) nilA)) (consA (callM (lenM 1 F__law_number) (consA (varM 1) nilA)) nilA))))
 (seqS (setS 6 (binM ixD (lstM (consA (varM 5) (consA (tupM (consA (callM (lenM 1 F__law_number) (consA (varM 1) nilA)) (consA (callM (lenM 1 F__law_number) (consA (varM 1) nilA)) nilA))) nilA))) (callM (fun1 intD) (consA (binM gtD (callM (lenM 2 F__law_next) (consA (varM 1) (consA (cM (.int 5)) nilA))) (cM (.int 0))) nilA))))
 REST0))

/-! the loop's pieces -/
theorem rng2' : rngItems 0 (2 : Int).toNat = [.int 0, .int 1] := rfl
theorem sz2 {s : S} : szM 2 s = .ok () s := szM_run (by decide)
theorem rngA2 {s : S} : rng1D [.int 2] s = .ok ⟨[.int 0, .int 1], none⟩ s := rng1_run (show -4000000000 ≤ (2 : Int) ∧ (2 : Int) ≤ 4000000000 by decide)
theorem same_x {x : Int} {s : S} : FF__law_same 3 [.int x, .int x] s = .ok (.bl true) s := by
  rw [run_same_int (j := 2), decide_eq_true rfl]
theorem same_b {x : Bool} {s : S} : FF__law_same 3 [.bl x, .bl x] s = .ok (.bl true) s := by
  rw [run_same_bl (j := 2), decide_eq_true rfl]
theorem all2 {b0 b1 : Bool} {s : S} : allD (.ptr s.length) (s ++ [.lst [.bl b0, .bl b1]]) = .ok (.bl (b0 && b1)) (s ++ [.lst [.bl b0, .bl b1]]) := by
  have h := all_new (s := s) (bs := [b0, b1])
  rw [show ([b0, b1].all id) = (b0 && b1) by cases b0 <;> cases b1 <;> rfl] at h
  exact h
theorem rest2 {P0 P1 Q0 Q1 R0 R1 : D} {C : Int} {B0 B1 : Bool} {x0 x1 x2 x3 x4 x8 x9 x10 x11 : Option D} {s : S}
    (T : ∀ s, F_turn [.tup [P0, P1], .tup [Q0, Q1], .tup [R0, R1]] s = .ok (.int C) s)
    (K : ∀ s, F__law_cross [.tup [P0, P1], .tup [Q0, Q1], .tup [R0, R1]] s = .ok (.int C) s)
    (O : ∀ s, F_on_segment [.tup [R0, R1], .tup [P0, P1], .tup [Q0, Q1]] s = .ok (.bl (decide (C = 0) && (B0 && B1))) s)
    (L0 : ∀ s, F__law_between [P0, R0, Q0] s = .ok (.bl B0) s) (L1 : ∀ s, F__law_between [P1, R1, Q1] s = .ok (.bl B1) s) :
    ∃ d g, REST2 [x0, x1, x2, x3, x4, some (.tup [P0, P1]), some (.tup [Q0, Q1]), some (.tup [R0, R1]), x8, x9, x10, x11] s = .ok (.nx [x0, x1, x2, x3, x4, some (.tup [P0, P1]), some (.tup [Q0, Q1]), some (.tup [R0, R1]), x8, some d, x10, x11]) (s ++ g) := by
  by_cases hc : C = 0
  · subst hc
    refine ⟨.bl (B0 && B1), [.lst [.bl B0, .bl B1]], ?_⟩
    unfold REST2
    simp only [fnM_run, startE, seqS_run, setS_run, dropS_run, retS_run, nxS_run, ifS_run, asgS_run, parS_run, forS_run, gNm_run, gNilM_run, gConsM_run, gTup2, gTup3, gSubM_run, seqK_nx, seqK_rt, seqK_bk, seqK_ct, outM_rt, outM_nx, lenM0, lenM1, lenM2, lenM3, lenM4, lenM5, callM_run, consA_run, nilA_run, tupM_run, lstM_run, tupK_1, tupK_2, tupK_3, tupK_4, binM_run, unM_run, tB_run, bB_bl, chainM_run, chK_t, chK_f, truM_run, andM_run, orM_run, notM_run, andT_run, orT_run, notT_run, ifM_run, cM_run, varM_run, varK_ok, yesT_run, addD_int, subD_int, negD_int, ltD_int, leD_int, gtD_int, geD_int, eqD_int, eqD_bl, eqD_str, neD_int, neD_bl, isnD_non, isnD_int, isnD_bl, isnD_str, isnD_tup, isnD_ptr, isbD_bl, notbD_bl, truD_bl, and_bl, or_bl, and_tt, or_tt, fun1_run, fun2_run, intD_int, intD_bl, absD_int, gcdD_int, lenD_tup, ixS_int, ixD_tup, ixD_flst, atK_some, at0, at1, at2, at3, on_ok, srcM_run, srcA_run, srcD_str, srcD_tup, srcD_flst, guard_none, List.map_cons, List.map_nil, List.length_cons, List.length_nil, Nat.reduceAdd, Nat.reduceSub, Nat.sub_self, List.replicate_succ, List.replicate_zero, List.append_nil, List.nil_append, List.cons_append, List.getElem?_cons_zero, List.getElem?_cons_succ, List.set_cons_zero, List.set_cons_succ, if_true, Bool.not_true, Bool.not_false, Bool.false_eq_true, if_false, Bool.true_and, Bool.false_and, Bool.and_true, Bool.and_false, Bool.true_or, Bool.false_or, Bool.or_true, Bool.or_false, T, K, O, L0, L1, same_x, same_b, eq_self, decide_true, compM_run, rngA2, sz2, coll_cons, coll_nil, wipeE, all2]
  · refine ⟨.bl false, [], ?_⟩
    unfold REST2
    simp only [fnM_run, startE, seqS_run, setS_run, dropS_run, retS_run, nxS_run, ifS_run, asgS_run, parS_run, forS_run, gNm_run, gNilM_run, gConsM_run, gTup2, gTup3, gSubM_run, seqK_nx, seqK_rt, seqK_bk, seqK_ct, outM_rt, outM_nx, lenM0, lenM1, lenM2, lenM3, lenM4, lenM5, callM_run, consA_run, nilA_run, tupM_run, lstM_run, tupK_1, tupK_2, tupK_3, tupK_4, binM_run, unM_run, tB_run, bB_bl, chainM_run, chK_t, chK_f, truM_run, andM_run, orM_run, notM_run, andT_run, orT_run, notT_run, ifM_run, cM_run, varM_run, varK_ok, yesT_run, addD_int, subD_int, negD_int, ltD_int, leD_int, gtD_int, geD_int, eqD_int, eqD_bl, eqD_str, neD_int, neD_bl, isnD_non, isnD_int, isnD_bl, isnD_str, isnD_tup, isnD_ptr, isbD_bl, notbD_bl, truD_bl, and_bl, or_bl, and_tt, or_tt, fun1_run, fun2_run, intD_int, intD_bl, absD_int, gcdD_int, lenD_tup, ixS_int, ixD_tup, ixD_flst, atK_some, at0, at1, at2, at3, on_ok, srcM_run, srcA_run, srcD_str, srcD_tup, srcD_flst, guard_none, List.map_cons, List.map_nil, List.length_cons, List.length_nil, Nat.reduceAdd, Nat.reduceSub, Nat.sub_self, List.replicate_succ, List.replicate_zero, List.append_nil, List.nil_append, List.cons_append, List.getElem?_cons_zero, List.getElem?_cons_succ, List.set_cons_zero, List.set_cons_succ, if_true, Bool.not_true, Bool.not_false, Bool.false_eq_true, if_false, Bool.true_and, Bool.false_and, Bool.and_true, Bool.and_false, Bool.true_or, Bool.false_or, Bool.or_true, Bool.or_false, T, K, O, L0, L1, same_x, same_b, hc, decide_false]
theorem rest2n {p0 p1 p2 p3 q0 q1 q2 q3 r0 r1 r2 r3 : Int} {x0 x1 x2 x3 x4 x8 x9 x10 x11 : Option D} {s : S} (p : Nm 240 64 p0 p1) (p' : Nm 240 64 p2 p3) (q : Nm 240 64 q0 q1) (q' : Nm 240 64 q2 q3) (r : Nm 240 64 r0 r1) (r' : Nm 240 64 r2 r3) :
    ∃ d g, REST2 [x0, x1, x2, x3, x4, some (pt p0 p1 p2 p3), some (pt q0 q1 q2 q3), some (pt r0 r1 r2 r3), x8, x9, x10, x11] s = .ok (.nx [x0, x1, x2, x3, x4, some (pt p0 p1 p2 p3), some (pt q0 q1 q2 q3), some (pt r0 r1 r2 r3), x8, some d, x10, x11]) (s ++ g) := by
  have h1 : 0 < p1 := by unfold Nm at p; omega
  have h3 : 0 < p3 := by unfold Nm at p'; omega
  have T : ∀ s, F_turn [pt p0 p1 p2 p3, pt q0 q1 q2 q3, pt r0 r1 r2 r3] s = .ok (.int (crs p0 p1 p2 p3 q0 q1 q2 q3 r0 r1 r2 r3)) s := fun s => by
    rw [run_turn p.bt.1 p.bt.2 p'.bt.1 p'.bt.2 q.bt.1 q.bt.2 q'.bt.1 q'.bt.2 r.bt.1 r.bt.2 r'.bt.1 r'.bt.2, crs_turn h1 h3]
  have O : ∀ s, F_on_segment [pt r0 r1 r2 r3, pt p0 p1 p2 p3, pt q0 q1 q2 q3] s = .ok (.bl (decide (crs p0 p1 p2 p3 q0 q1 q2 q3 r0 r1 r2 r3 = 0) && (((decide (p0 * r1 ≤ r0 * p1) && decide (r0 * q1 ≤ q0 * r1)) || (decide (r0 * p1 ≤ p0 * r1) && decide (q0 * r1 ≤ r0 * q1))) && ((decide (p2 * r3 ≤ r2 * p3) && decide (r2 * q3 ≤ q2 * r3)) || (decide (r2 * p3 ≤ p2 * r3) && decide (q2 * r3 ≤ r2 * q3)))))) s := fun s => by
    rw [run_on p.bt.1 p.bt.2 p'.bt.1 p'.bt.2 q.bt.1 q.bt.2 q'.bt.1 q'.bt.2 r.bt.1 r.bt.2 r'.bt.1 r'.bt.2, crs_turn h1 h3, btw_eq, btw_eq]
  exact rest2 T (fun s => run_cross p.bt.1 p.bt.2 p'.bt.1 p'.bt.2 q.bt.1 q.bt.2 q'.bt.1 q'.bt.2 r.bt.1 r.bt.2 r'.bt.1 r'.bt.2) O (fun s => run_lbetween p.bt.1 p.bt.2 q.bt.1 q.bt.2 r.bt.1 r.bt.2) (fun s => run_lbetween p'.bt.1 p'.bt.2 q'.bt.1 q'.bt.2 r'.bt.1 r'.bt.2)
theorem nm_mul {a b : Int} (ha : -6 ≤ a ∧ a ≤ 6) (hb : 1 ≤ b ∧ b ≤ 4) : -24 ≤ a * b ∧ a * b ≤ 24 := by
  have : b = 1 ∨ b = 2 ∨ b = 3 ∨ b = 4 := by omega
  rcases this with rfl | rfl | rfl | rfl <;> omega
theorem sh_mul {x k : Int} (hx : -24 ≤ x ∧ x ≤ 24) (hk : -2 ≤ k ∧ k ≤ 6) : -144 ≤ x * k ∧ x * k ≤ 144 := by
  have : k = -2 ∨ k = -1 ∨ k = 0 ∨ k = 1 ∨ k = 2 ∨ k = 3 ∨ k = 4 ∨ k = 5 ∨ k = 6 := by omega
  rcases this with rfl | rfl | rfl | rfl | rfl | rfl | rfl | rfl | rfl <;> omega
theorem mix_nm {x y k : Int} (hx : -24 ≤ x ∧ x ≤ 24) (hy : -24 ≤ y ∧ y ≤ 24) (hk : -2 ≤ k ∧ k ≤ 4) : -240 ≤ x * (4 - k) + y * k ∧ x * (4 - k) + y * k ≤ 240 := by
  have : k = -2 ∨ k = -1 ∨ k = 0 ∨ k = 1 ∨ k = 2 ∨ k = 3 ∨ k = 4 := by omega
  rcases this with rfl | rfl | rfl | rfl | rfl | rfl | rfl <;> omega
theorem den_nm {b d : Int} (hb : 1 ≤ b ∧ b ≤ 4) (hd : 1 ≤ d ∧ d ≤ 4) : 1 ≤ 4 * b * d ∧ 4 * b * d ≤ 64 := by
  have : b = 1 ∨ b = 2 ∨ b = 3 ∨ b = 4 := by omega
  rcases this with rfl | rfl | rfl | rfl <;> omega
theorem mo_s {x y : Int} (hx : -1000 ≤ x ∧ x ≤ 1000) : MulOk x y := mulOk_l (by omega) (by omega)
theorem nm_mix {a b c d k : Int} (p : Nm 6 4 a b) (q : Nm 6 4 c d) (hk : -2 ≤ k ∧ k ≤ 4) : Nm 240 64 (a * d * (4 - k) + c * b * k) (4 * b * d) := by
  unfold Nm at *
  have h1 := nm_mul p.1 q.2
  have h2 := nm_mul q.1 p.2
  have h3 := mix_nm h1 h2 hk
  have h4 := den_nm p.2 q.2
  exact ⟨h3, h4⟩
theorem mix_run {a b c d k : Int} {s : S} (p : Nm 6 4 a b) (q : Nm 6 4 c d) (hk : -2 ≤ k ∧ k ≤ 4) : mulD (.int a) (.int d) s = .ok (.int (a * d)) s ∧ mulD (.int (a * d)) (.int (4 - k)) s = .ok (.int (a * d * (4 - k))) s ∧ mulD (.int c) (.int b) s = .ok (.int (c * b)) s ∧ mulD (.int (c * b)) (.int k) s = .ok (.int (c * b * k)) s ∧ mulD (.int 4) (.int b) s = .ok (.int (4 * b)) s ∧ mulD (.int (4 * b)) (.int d) s = .ok (.int (4 * b * d)) s := by
  unfold Nm at *
  have h1 := nm_mul p.1 q.2
  have h2 := nm_mul q.1 p.2
  exact ⟨mulD_int (mo_s (by omega)), mulD_int (mo_s (by omega)), mulD_int (mo_s (by omega)), mulD_int (mo_s (by omega)), mulD_int (mo_s (by omega)), mulD_int (mo_s (by omega))⟩
theorem nm_low {n d : Int} {s : S} (h : Nm 240 64 n d) : F__law_low [.int n, .int d] s = .ok (num (rat n d).1 (rat n d).2) s := by
  unfold Nm at h
  exact run_low (by omega) (by omega)
/-- what the law's environment keeps -/
def Keep (x0 : Option D) (env : PL.Env) (s : S) : Prop := env.length = 12 ∧ env[0]? = some x0 ∧ env[1]? = some (some (.ptr 1)) ∧ PotAt s 1 0
theorem ex_keep {m : R Out} {x0 : Option D} {env' : PL.Env} {s' : S} (h : m = .ok (.nx env') s') (k : Keep x0 env' s') : ∃ env' s', m = .ok (.nx env') s' ∧ Keep x0 env' s' := ⟨env', s', h, k⟩
theorem rest1 {p0 p1 p2 p3 q0 q1 q2 q3 r0 r1 r2 r3 k : Int} {x0 x2 x3 x4 x9 x10 x11 : Option D} {s : S} (P : PotAt s 1 0) (p : Nm 6 4 p0 p1) (p' : Nm 6 4 p2 p3) (q : Nm 6 4 q0 q1) (q' : Nm 6 4 q2 q3) (r : Nm 6 4 r0 r1) (r' : Nm 6 4 r2 r3) (hk : -2 ≤ k ∧ k ≤ 4) :
    ∃ env' s', REST1 [x0, some (.ptr 1), x2, x3, x4, some (pt p0 p1 p2 p3), some (pt q0 q1 q2 q3), some (pt r0 r1 r2 r3), some (.int k), x9, x10, x11] s = .ok (.nx env') s' ∧ Keep x0 env' s' := by
  obtain ⟨v, c', e1, v0, v1, P1⟩ := run_next (l := 2) P (by decide) (bt_small (by decide) (by decide))
  have up : ∀ {n d : Int}, Nm 6 4 n d → Nm 240 64 n d := fun h => h.more (by decide) (by decide)
  by_cases hv : v = 1
  · have n0 := nm_mix p q hk
    have n1 := nm_mix p' q' hk
    obtain ⟨d, g, e2⟩ := rest2n (x0 := x0) (x1 := some (.ptr 1)) (x2 := x2) (x3 := x3) (x4 := x4) (x8 := some (.int k)) (x9 := x9) (x10 := x10) (x11 := x11) (s := s.set 1 c' ++ [.lst [num (rat (p0 * q1 * (4 - k) + q0 * p1 * k) (4 * p1 * q1)).1 (rat (p0 * q1 * (4 - k) + q0 * p1 * k) (4 * p1 * q1)).2, num (rat (p2 * q3 * (4 - k) + q2 * p3 * k) (4 * p3 * q3)).1 (rat (p2 * q3 * (4 - k) + q2 * p3 * k) (4 * p3 * q3)).2]]) (up p) (up p') (up q) (up q') (rat_nm n0) (rat_nm n1)
    apply ex_keep
    unfold REST1
    simp only [fnM_run, startE, seqS_run, setS_run, dropS_run, retS_run, nxS_run, ifS_run, asgS_run, parS_run, forS_run, gNm_run, gNilM_run, gConsM_run, gTup2, gTup3, gSubM_run, seqK_nx, seqK_rt, seqK_bk, seqK_ct, outM_rt, outM_nx, lenM0, lenM1, lenM2, lenM3, lenM4, lenM5, callM_run, consA_run, nilA_run, tupM_run, lstM_run, tupK_1, tupK_2, tupK_3, tupK_4, binM_run, unM_run, tB_run, bB_bl, chainM_run, chK_t, chK_f, truM_run, andM_run, orM_run, notM_run, andT_run, orT_run, notT_run, ifM_run, cM_run, varM_run, varK_ok, yesT_run, addD_int, subD_int, negD_int, ltD_int, leD_int, gtD_int, geD_int, eqD_int, eqD_bl, eqD_str, neD_int, neD_bl, isnD_non, isnD_int, isnD_bl, isnD_str, isnD_tup, isnD_ptr, isbD_bl, notbD_bl, truD_bl, and_bl, or_bl, and_tt, or_tt, fun1_run, fun2_run, intD_int, intD_bl, absD_int, gcdD_int, lenD_tup, ixS_int, ixD_tup, ixD_flst, atK_some, at0, at1, at2, at3, on_ok, srcM_run, srcA_run, srcD_str, srcD_tup, srcD_flst, guard_none, List.map_cons, List.map_nil, List.length_cons, List.length_nil, Nat.reduceAdd, Nat.reduceSub, Nat.sub_self, List.replicate_succ, List.replicate_zero, List.append_nil, List.nil_append, List.cons_append, List.getElem?_cons_zero, List.getElem?_cons_succ, List.set_cons_zero, List.set_cons_succ, if_true, Bool.not_true, Bool.not_false, Bool.false_eq_true, if_false, Bool.true_and, Bool.false_and, Bool.and_true, Bool.and_false, Bool.true_or, Bool.false_or, Bool.or_true, Bool.or_false, e1, hv, eq_self, decide_true, compM_run, rngA2, sz2, coll_cons, coll_nil, wipeE, (mix_run (s := s.set 1 c') p q hk).1, (mix_run (s := s.set 1 c') p q hk).2.1, (mix_run (s := s.set 1 c') p q hk).2.2.1, (mix_run (s := s.set 1 c') p q hk).2.2.2.1, (mix_run (s := s.set 1 c') p q hk).2.2.2.2.1, (mix_run (s := s.set 1 c') p q hk).2.2.2.2.2,
      (mix_run (s := s.set 1 c') p' q' hk).1, (mix_run (s := s.set 1 c') p' q' hk).2.1, (mix_run (s := s.set 1 c') p' q' hk).2.2.1, (mix_run (s := s.set 1 c') p' q' hk).2.2.2.1, (mix_run (s := s.set 1 c') p' q' hk).2.2.2.2.1, (mix_run (s := s.set 1 c') p' q' hk).2.2.2.2.2, nm_low n0, nm_low n1, tuple_new]
    exact e2
    exact ⟨rfl, rfl, rfl, (P1.more).more⟩
  · obtain ⟨d, g, e2⟩ := rest2n (x0 := x0) (x1 := some (.ptr 1)) (x2 := x2) (x3 := x3) (x4 := x4) (x8 := some (.int k)) (x9 := x9) (x10 := x10) (x11 := x11) (s := s.set 1 c') (up p) (up p') (up q) (up q') (up r) (up r')
    apply ex_keep
    unfold REST1
    simp only [fnM_run, startE, seqS_run, setS_run, dropS_run, retS_run, nxS_run, ifS_run, asgS_run, parS_run, forS_run, gNm_run, gNilM_run, gConsM_run, gTup2, gTup3, gSubM_run, seqK_nx, seqK_rt, seqK_bk, seqK_ct, outM_rt, outM_nx, lenM0, lenM1, lenM2, lenM3, lenM4, lenM5, callM_run, consA_run, nilA_run, tupM_run, lstM_run, tupK_1, tupK_2, tupK_3, tupK_4, binM_run, unM_run, tB_run, bB_bl, chainM_run, chK_t, chK_f, truM_run, andM_run, orM_run, notM_run, andT_run, orT_run, notT_run, ifM_run, cM_run, varM_run, varK_ok, yesT_run, addD_int, subD_int, negD_int, ltD_int, leD_int, gtD_int, geD_int, eqD_int, eqD_bl, eqD_str, neD_int, neD_bl, isnD_non, isnD_int, isnD_bl, isnD_str, isnD_tup, isnD_ptr, isbD_bl, notbD_bl, truD_bl, and_bl, or_bl, and_tt, or_tt, fun1_run, fun2_run, intD_int, intD_bl, absD_int, gcdD_int, lenD_tup, ixS_int, ixD_tup, ixD_flst, atK_some, at0, at1, at2, at3, on_ok, srcM_run, srcA_run, srcD_str, srcD_tup, srcD_flst, guard_none, List.map_cons, List.map_nil, List.length_cons, List.length_nil, Nat.reduceAdd, Nat.reduceSub, Nat.sub_self, List.replicate_succ, List.replicate_zero, List.append_nil, List.nil_append, List.cons_append, List.getElem?_cons_zero, List.getElem?_cons_succ, List.set_cons_zero, List.set_cons_succ, if_true, Bool.not_true, Bool.not_false, Bool.false_eq_true, if_false, Bool.true_and, Bool.false_and, Bool.and_true, Bool.and_false, Bool.true_or, Bool.false_or, Bool.or_true, Bool.or_false, e1, hv, decide_false]
    exact e2
    exact ⟨rfl, rfl, rfl, P1.more⟩
theorem rest0 {p0 p1 p2 p3 q0 q1 q2 q3 : Int} {x0 x2 x3 x4 x7 x8 x9 x10 x11 : Option D} {s : S} (P : PotAt s 1 0) (p : Nm 6 4 p0 p1) (p' : Nm 6 4 p2 p3) (q : Nm 6 4 q0 q1) (q' : Nm 6 4 q2 q3) :
    ∃ env' s', REST0 [x0, some (.ptr 1), x2, x3, x4, some (pt p0 p1 p2 p3), some (pt q0 q1 q2 q3), x7, x8, x9, x10, x11] s = .ok (.nx env') s' ∧ Keep x0 env' s' := by
  obtain ⟨r0, r1, s1, e1, P1, r⟩ := run_number P
  obtain ⟨r2, r3, s2, e2, P2, r'⟩ := run_number P1
  obtain ⟨v, c', e3, v0, v1, P3⟩ := run_next (l := 7) P2 (by decide) (bt_small (by decide) (by decide))
  obtain ⟨env', s', e4, k4⟩ := rest1 (k := v - 2) (x0 := x0) (x2 := x2) (x3 := x3) (x4 := x4) (x9 := x9) (x10 := x10) (x11 := x11) P3 p p' q q' r r' (by omega)
  refine ⟨env', s', ?_, k4⟩
  unfold REST0
  simp only [fnM_run, startE, seqS_run, setS_run, dropS_run, retS_run, nxS_run, ifS_run, asgS_run, parS_run, forS_run, gNm_run, gNilM_run, gConsM_run, gTup2, gTup3, gSubM_run, seqK_nx, seqK_rt, seqK_bk, seqK_ct, outM_rt, outM_nx, lenM0, lenM1, lenM2, lenM3, lenM4, lenM5, callM_run, consA_run, nilA_run, tupM_run, lstM_run, tupK_1, tupK_2, tupK_3, tupK_4, binM_run, unM_run, tB_run, bB_bl, chainM_run, chK_t, chK_f, truM_run, andM_run, orM_run, notM_run, andT_run, orT_run, notT_run, ifM_run, cM_run, varM_run, varK_ok, yesT_run, addD_int, subD_int, negD_int, ltD_int, leD_int, gtD_int, geD_int, eqD_int, eqD_bl, eqD_str, neD_int, neD_bl, isnD_non, isnD_int, isnD_bl, isnD_str, isnD_tup, isnD_ptr, isbD_bl, notbD_bl, truD_bl, and_bl, or_bl, and_tt, or_tt, fun1_run, fun2_run, intD_int, intD_bl, absD_int, gcdD_int, lenD_tup, ixS_int, ixD_tup, ixD_flst, atK_some, at0, at1, at2, at3, on_ok, srcM_run, srcA_run, srcD_str, srcD_tup, srcD_flst, guard_none, List.map_cons, List.map_nil, List.length_cons, List.length_nil, Nat.reduceAdd, Nat.reduceSub, Nat.sub_self, List.replicate_succ, List.replicate_zero, List.append_nil, List.nil_append, List.cons_append, List.getElem?_cons_zero, List.getElem?_cons_succ, List.set_cons_zero, List.set_cons_succ, if_true, Bool.not_true, Bool.not_false, Bool.false_eq_true, if_false, Bool.true_and, Bool.false_and, Bool.and_true, Bool.and_false, Bool.true_or, Bool.false_or, Bool.or_true, Bool.or_false, e1, e2, e3]
  exact e4
theorem body_true {x0 : Option D} {env : PL.Env} {s : S} {z : Int} (h : Keep x0 env s) : ∃ env' s', ((gNm 2 (.int z) env s).on fun e s2 => LAWBODY e s2) = .ok (.nx env') s' ∧ Keep x0 env' s' := by
  obtain ⟨hl, h0, h1, P⟩ := h
  obtain ⟨x0', x1, x2, x3, x4, x5, x6, x7, x8, x9, x10, x11, rfl⟩ : ∃ x0 x1 x2 x3 x4 x5 x6 x7 x8 x9 x10 x11, env = [x0, x1, x2, x3, x4, x5, x6, x7, x8, x9, x10, x11] := by
    match env, hl with
    | [x0, x1, x2, x3, x4, x5, x6, x7, x8, x9, x10, x11], _ => exact ⟨x0, x1, x2, x3, x4, x5, x6, x7, x8, x9, x10, x11, rfl⟩
  cases h0
  cases h1
  obtain ⟨p0, p1, s1, e1, P1, p⟩ := run_number P
  obtain ⟨p2, p3, s2, e2, P2, p'⟩ := run_number P1
  obtain ⟨q0, q1, s3, e3, P3, q⟩ := run_number P2
  obtain ⟨q2, q3, s4, e4, P4, q'⟩ := run_number P3
  obtain ⟨v, c', e5, v0, v1, P5⟩ := run_next (l := 5) (P4.more (g := [.lst [pt p0 p1 p2 p3, pt q0 q1 q2 q3]])) (by decide) (bt_small (by decide) (by decide))
  have l4 : 1 < s4.length := by
    obtain ⟨⟨_, _, _, _, w, _⟩, _⟩ := P4
    exact (List.getElem?_eq_some_iff.mp w).1
  have at4 : ((s4 ++ [Cell.lst [pt p0 p1 p2 p3, pt q0 q1 q2 q3]]).set 1 c')[s4.length]? = some (.lst [pt p0 p1 p2 p3, pt q0 q1 q2 q3]) := by
    rw [set_ne (by omega), new_at]
  by_cases hv : 0 < v
  · obtain ⟨env', s', e6, k6⟩ := rest0 (x0 := x0) (x2 := some (.int z)) (x3 := x3) (x4 := x4) (x7 := x7) (x8 := x8) (x9 := x9) (x10 := x10) (x11 := x11) P5 p p' q q'
    refine ⟨env', s', ?_, k6⟩
    unfold LAWBODY
    simp only [fnM_run, startE, seqS_run, setS_run, dropS_run, retS_run, nxS_run, ifS_run, asgS_run, parS_run, forS_run, gNm_run, gNilM_run, gConsM_run, gTup2, gTup3, gSubM_run, seqK_nx, seqK_rt, seqK_bk, seqK_ct, outM_rt, outM_nx, lenM0, lenM1, lenM2, lenM3, lenM4, lenM5, callM_run, consA_run, nilA_run, tupM_run, lstM_run, tupK_1, tupK_2, tupK_3, tupK_4, binM_run, unM_run, tB_run, bB_bl, chainM_run, chK_t, chK_f, truM_run, andM_run, orM_run, notM_run, andT_run, orT_run, notT_run, ifM_run, cM_run, varM_run, varK_ok, yesT_run, addD_int, subD_int, negD_int, ltD_int, leD_int, gtD_int, geD_int, eqD_int, eqD_bl, eqD_str, neD_int, neD_bl, isnD_non, isnD_int, isnD_bl, isnD_str, isnD_tup, isnD_ptr, isbD_bl, notbD_bl, truD_bl, and_bl, or_bl, and_tt, or_tt, fun1_run, fun2_run, intD_int, intD_bl, absD_int, gcdD_int, lenD_tup, ixS_int, ixD_tup, ixD_flst, atK_some, at0, at1, at2, at3, on_ok, srcM_run, srcA_run, srcD_str, srcD_tup, srcD_flst, guard_none, List.map_cons, List.map_nil, List.length_cons, List.length_nil, Nat.reduceAdd, Nat.reduceSub, Nat.sub_self, List.replicate_succ, List.replicate_zero, List.append_nil, List.nil_append, List.cons_append, List.getElem?_cons_zero, List.getElem?_cons_succ, List.set_cons_zero, List.set_cons_succ, if_true, Bool.not_true, Bool.not_false, Bool.false_eq_true, if_false, Bool.true_and, Bool.false_and, Bool.and_true, Bool.and_false, Bool.true_or, Bool.false_or, Bool.or_true, Bool.or_false, e1, e2, e3, e4, lstK_le, Nat.reduceLeDiff, e5, hv, decide_true, ixD_lst at4]
    exact e6
  · obtain ⟨env', s', e6, k6⟩ := rest0 (x0 := x0) (x2 := some (.int z)) (x3 := x3) (x4 := x4) (x7 := x7) (x8 := x8) (x9 := x9) (x10 := x10) (x11 := x11) P5 p p' p p'
    refine ⟨env', s', ?_, k6⟩
    unfold LAWBODY
    simp only [fnM_run, startE, seqS_run, setS_run, dropS_run, retS_run, nxS_run, ifS_run, asgS_run, parS_run, forS_run, gNm_run, gNilM_run, gConsM_run, gTup2, gTup3, gSubM_run, seqK_nx, seqK_rt, seqK_bk, seqK_ct, outM_rt, outM_nx, lenM0, lenM1, lenM2, lenM3, lenM4, lenM5, callM_run, consA_run, nilA_run, tupM_run, lstM_run, tupK_1, tupK_2, tupK_3, tupK_4, binM_run, unM_run, tB_run, bB_bl, chainM_run, chK_t, chK_f, truM_run, andM_run, orM_run, notM_run, andT_run, orT_run, notT_run, ifM_run, cM_run, varM_run, varK_ok, yesT_run, addD_int, subD_int, negD_int, ltD_int, leD_int, gtD_int, geD_int, eqD_int, eqD_bl, eqD_str, neD_int, neD_bl, isnD_non, isnD_int, isnD_bl, isnD_str, isnD_tup, isnD_ptr, isbD_bl, notbD_bl, truD_bl, and_bl, or_bl, and_tt, or_tt, fun1_run, fun2_run, intD_int, intD_bl, absD_int, gcdD_int, lenD_tup, ixS_int, ixD_tup, ixD_flst, atK_some, at0, at1, at2, at3, on_ok, srcM_run, srcA_run, srcD_str, srcD_tup, srcD_flst, guard_none, List.map_cons, List.map_nil, List.length_cons, List.length_nil, Nat.reduceAdd, Nat.reduceSub, Nat.sub_self, List.replicate_succ, List.replicate_zero, List.append_nil, List.nil_append, List.cons_append, List.getElem?_cons_zero, List.getElem?_cons_succ, List.set_cons_zero, List.set_cons_succ, if_true, Bool.not_true, Bool.not_false, Bool.false_eq_true, if_false, Bool.true_and, Bool.false_and, Bool.and_true, Bool.and_false, Bool.true_or, Bool.false_or, Bool.or_true, Bool.or_false, e1, e2, e3, e4, lstK_le, Nat.reduceLeDiff, e5, hv, decide_false, ixD_lst at4]
    exact e6

/-! names, corners, points at their edges -/
theorem run_corner_int {i j : Int} {s : S} : F_is_corner [.tup [.int i, .int j]] s = .ok (.bl ((decide (-10000 ≤ i) && decide (i ≤ 10000)) && (decide (-10000 ≤ j) && decide (j ≤ 10000)))) s := by
  unfold F_is_corner m_is_corner F_is_corner_from m_is_corner_from
  simp only [fnM_run, startE, seqS_run, setS_run, dropS_run, retS_run, nxS_run, ifS_run, asgS_run, parS_run, forS_run, gNm_run, gNilM_run, gConsM_run, gTup2, gTup3, gSubM_run, seqK_nx, seqK_rt, seqK_bk, seqK_ct, outM_rt, outM_nx, lenM0, lenM1, lenM2, lenM3, lenM4, lenM5, callM_run, consA_run, nilA_run, tupM_run, lstM_run, tupK_1, tupK_2, tupK_3, tupK_4, binM_run, unM_run, tB_run, bB_bl, chainM_run, chK_t, chK_f, truM_run, andM_run, orM_run, notM_run, andT_run, orT_run, notT_run, ifM_run, cM_run, varM_run, varK_ok, yesT_run, addD_int, subD_int, negD_int, ltD_int, leD_int, gtD_int, geD_int, eqD_int, eqD_bl, eqD_str, neD_int, neD_bl, isnD_non, isnD_int, isnD_bl, isnD_str, isnD_tup, isnD_ptr, isbD_bl, notbD_bl, truD_bl, and_bl, or_bl, and_tt, or_tt, fun1_run, fun2_run, intD_int, intD_bl, absD_int, gcdD_int, lenD_tup, ixS_int, ixD_tup, ixD_flst, atK_some, at0, at1, at2, at3, on_ok, srcM_run, srcA_run, srcD_str, srcD_tup, srcD_flst, guard_none, List.map_cons, List.map_nil, List.length_cons, List.length_nil, Nat.reduceAdd, Nat.reduceSub, Nat.sub_self, List.replicate_succ, List.replicate_zero, List.append_nil, List.nil_append, List.cons_append, List.getElem?_cons_zero, List.getElem?_cons_succ, List.set_cons_zero, List.set_cons_succ, if_true, Bool.not_true, Bool.not_false, Bool.false_eq_true, if_false, Bool.true_and, Bool.false_and, Bool.and_true, Bool.and_false, Bool.true_or, Bool.false_or, Bool.or_true, Bool.or_false, isi_tt, run_coord, show decide (((2 : Nat) : Int) = 2) = true from rfl]
theorem corner_bl {b : Bool} {d : D} {s : S} : F_is_corner [.tup [.bl b, d]] s = .ok (.bl false) s := by
  unfold F_is_corner m_is_corner F_is_corner_from m_is_corner_from
  simp only [fnM_run, startE, seqS_run, setS_run, dropS_run, retS_run, nxS_run, ifS_run, asgS_run, parS_run, forS_run, gNm_run, gNilM_run, gConsM_run, gTup2, gTup3, gSubM_run, seqK_nx, seqK_rt, seqK_bk, seqK_ct, outM_rt, outM_nx, lenM0, lenM1, lenM2, lenM3, lenM4, lenM5, callM_run, consA_run, nilA_run, tupM_run, lstM_run, tupK_1, tupK_2, tupK_3, tupK_4, binM_run, unM_run, tB_run, bB_bl, chainM_run, chK_t, chK_f, truM_run, andM_run, orM_run, notM_run, andT_run, orT_run, notT_run, ifM_run, cM_run, varM_run, varK_ok, yesT_run, addD_int, subD_int, negD_int, ltD_int, leD_int, gtD_int, geD_int, eqD_int, eqD_bl, eqD_str, neD_int, neD_bl, isnD_non, isnD_int, isnD_bl, isnD_str, isnD_tup, isnD_ptr, isbD_bl, notbD_bl, truD_bl, and_bl, or_bl, and_tt, or_tt, fun1_run, fun2_run, intD_int, intD_bl, absD_int, gcdD_int, lenD_tup, ixS_int, ixD_tup, ixD_flst, atK_some, at0, at1, at2, at3, on_ok, srcM_run, srcA_run, srcD_str, srcD_tup, srcD_flst, guard_none, List.map_cons, List.map_nil, List.length_cons, List.length_nil, Nat.reduceAdd, Nat.reduceSub, Nat.sub_self, List.replicate_succ, List.replicate_zero, List.append_nil, List.nil_append, List.cons_append, List.getElem?_cons_zero, List.getElem?_cons_succ, List.set_cons_zero, List.set_cons_succ, if_true, Bool.not_true, Bool.not_false, Bool.false_eq_true, if_false, Bool.true_and, Bool.false_and, Bool.and_true, Bool.and_false, Bool.true_or, Bool.false_or, Bool.or_true, Bool.or_false, isi_tt, run_coord_bl, show decide (((2 : Nat) : Int) = 2) = true from rfl]
theorem corner_str {i : Int} {x : Str} {s : S} : F_is_corner [.tup [.int i, .str x]] s = .ok (.bl false) s := by
  unfold F_is_corner m_is_corner F_is_corner_from m_is_corner_from
  simp only [fnM_run, startE, seqS_run, setS_run, dropS_run, retS_run, nxS_run, ifS_run, asgS_run, parS_run, forS_run, gNm_run, gNilM_run, gConsM_run, gTup2, gTup3, gSubM_run, seqK_nx, seqK_rt, seqK_bk, seqK_ct, outM_rt, outM_nx, lenM0, lenM1, lenM2, lenM3, lenM4, lenM5, callM_run, consA_run, nilA_run, tupM_run, lstM_run, tupK_1, tupK_2, tupK_3, tupK_4, binM_run, unM_run, tB_run, bB_bl, chainM_run, chK_t, chK_f, truM_run, andM_run, orM_run, notM_run, andT_run, orT_run, notT_run, ifM_run, cM_run, varM_run, varK_ok, yesT_run, addD_int, subD_int, negD_int, ltD_int, leD_int, gtD_int, geD_int, eqD_int, eqD_bl, eqD_str, neD_int, neD_bl, isnD_non, isnD_int, isnD_bl, isnD_str, isnD_tup, isnD_ptr, isbD_bl, notbD_bl, truD_bl, and_bl, or_bl, and_tt, or_tt, fun1_run, fun2_run, intD_int, intD_bl, absD_int, gcdD_int, lenD_tup, ixS_int, ixD_tup, ixD_flst, atK_some, at0, at1, at2, at3, on_ok, srcM_run, srcA_run, srcD_str, srcD_tup, srcD_flst, guard_none, List.map_cons, List.map_nil, List.length_cons, List.length_nil, Nat.reduceAdd, Nat.reduceSub, Nat.sub_self, List.replicate_succ, List.replicate_zero, List.append_nil, List.nil_append, List.cons_append, List.getElem?_cons_zero, List.getElem?_cons_succ, List.set_cons_zero, List.set_cons_succ, if_true, Bool.not_true, Bool.not_false, Bool.false_eq_true, if_false, Bool.true_and, Bool.false_and, Bool.and_true, Bool.and_false, Bool.true_or, Bool.false_or, Bool.or_true, Bool.or_false, isi_tt, run_coord, run_coord_str, show decide (((2 : Nat) : Int) = 2) = true from rfl, ite_self]
theorem corner_1 {d : D} {s : S} : F_is_corner [.tup [d]] s = .ok (.bl false) s := by
  unfold F_is_corner m_is_corner F_is_corner_from m_is_corner_from
  simp only [fnM_run, startE, seqS_run, setS_run, dropS_run, retS_run, nxS_run, ifS_run, asgS_run, parS_run, forS_run, gNm_run, gNilM_run, gConsM_run, gTup2, gTup3, gSubM_run, seqK_nx, seqK_rt, seqK_bk, seqK_ct, outM_rt, outM_nx, lenM0, lenM1, lenM2, lenM3, lenM4, lenM5, callM_run, consA_run, nilA_run, tupM_run, lstM_run, tupK_1, tupK_2, tupK_3, tupK_4, binM_run, unM_run, tB_run, bB_bl, chainM_run, chK_t, chK_f, truM_run, andM_run, orM_run, notM_run, andT_run, orT_run, notT_run, ifM_run, cM_run, varM_run, varK_ok, yesT_run, addD_int, subD_int, negD_int, ltD_int, leD_int, gtD_int, geD_int, eqD_int, eqD_bl, eqD_str, neD_int, neD_bl, isnD_non, isnD_int, isnD_bl, isnD_str, isnD_tup, isnD_ptr, isbD_bl, notbD_bl, truD_bl, and_bl, or_bl, and_tt, or_tt, fun1_run, fun2_run, intD_int, intD_bl, absD_int, gcdD_int, lenD_tup, ixS_int, ixD_tup, ixD_flst, atK_some, at0, at1, at2, at3, on_ok, srcM_run, srcA_run, srcD_str, srcD_tup, srcD_flst, guard_none, List.map_cons, List.map_nil, List.length_cons, List.length_nil, Nat.reduceAdd, Nat.reduceSub, Nat.sub_self, List.replicate_succ, List.replicate_zero, List.append_nil, List.nil_append, List.cons_append, List.getElem?_cons_zero, List.getElem?_cons_succ, List.set_cons_zero, List.set_cons_succ, if_true, Bool.not_true, Bool.not_false, Bool.false_eq_true, if_false, Bool.true_and, Bool.false_and, Bool.and_true, Bool.and_false, Bool.true_or, Bool.false_or, Bool.or_true, Bool.or_false, isi_tt, show decide (((1 : Nat) : Int) = 2) = false from rfl]
theorem corner_3 {d e f : D} {s : S} : F_is_corner [.tup [d, e, f]] s = .ok (.bl false) s := by
  unfold F_is_corner m_is_corner F_is_corner_from m_is_corner_from
  simp only [fnM_run, startE, seqS_run, setS_run, dropS_run, retS_run, nxS_run, ifS_run, asgS_run, parS_run, forS_run, gNm_run, gNilM_run, gConsM_run, gTup2, gTup3, gSubM_run, seqK_nx, seqK_rt, seqK_bk, seqK_ct, outM_rt, outM_nx, lenM0, lenM1, lenM2, lenM3, lenM4, lenM5, callM_run, consA_run, nilA_run, tupM_run, lstM_run, tupK_1, tupK_2, tupK_3, tupK_4, binM_run, unM_run, tB_run, bB_bl, chainM_run, chK_t, chK_f, truM_run, andM_run, orM_run, notM_run, andT_run, orT_run, notT_run, ifM_run, cM_run, varM_run, varK_ok, yesT_run, addD_int, subD_int, negD_int, ltD_int, leD_int, gtD_int, geD_int, eqD_int, eqD_bl, eqD_str, neD_int, neD_bl, isnD_non, isnD_int, isnD_bl, isnD_str, isnD_tup, isnD_ptr, isbD_bl, notbD_bl, truD_bl, and_bl, or_bl, and_tt, or_tt, fun1_run, fun2_run, intD_int, intD_bl, absD_int, gcdD_int, lenD_tup, ixS_int, ixD_tup, ixD_flst, atK_some, at0, at1, at2, at3, on_ok, srcM_run, srcA_run, srcD_str, srcD_tup, srcD_flst, guard_none, List.map_cons, List.map_nil, List.length_cons, List.length_nil, Nat.reduceAdd, Nat.reduceSub, Nat.sub_self, List.replicate_succ, List.replicate_zero, List.append_nil, List.nil_append, List.cons_append, List.getElem?_cons_zero, List.getElem?_cons_succ, List.set_cons_zero, List.set_cons_succ, if_true, Bool.not_true, Bool.not_false, Bool.false_eq_true, if_false, Bool.true_and, Bool.false_and, Bool.and_true, Bool.and_false, Bool.true_or, Bool.false_or, Bool.or_true, Bool.or_false, isi_tt, show decide (((3 : Nat) : Int) = 2) = false from rfl]
theorem corner_lst {k : Nat} {ds : List D} {s : S} (h : s[k]? = some (.lst ds)) : F_is_corner [.ptr k] s = .ok (.bl false) s := by
  unfold F_is_corner m_is_corner F_is_corner_from m_is_corner_from
  simp only [fnM_run, startE, seqS_run, setS_run, dropS_run, retS_run, nxS_run, ifS_run, asgS_run, parS_run, forS_run, gNm_run, gNilM_run, gConsM_run, gTup2, gTup3, gSubM_run, seqK_nx, seqK_rt, seqK_bk, seqK_ct, outM_rt, outM_nx, lenM0, lenM1, lenM2, lenM3, lenM4, lenM5, callM_run, consA_run, nilA_run, tupM_run, lstM_run, tupK_1, tupK_2, tupK_3, tupK_4, binM_run, unM_run, tB_run, bB_bl, chainM_run, chK_t, chK_f, truM_run, andM_run, orM_run, notM_run, andT_run, orT_run, notT_run, ifM_run, cM_run, varM_run, varK_ok, yesT_run, addD_int, subD_int, negD_int, ltD_int, leD_int, gtD_int, geD_int, eqD_int, eqD_bl, eqD_str, neD_int, neD_bl, isnD_non, isnD_int, isnD_bl, isnD_str, isnD_tup, isnD_ptr, isbD_bl, notbD_bl, truD_bl, and_bl, or_bl, and_tt, or_tt, fun1_run, fun2_run, intD_int, intD_bl, absD_int, gcdD_int, lenD_tup, ixS_int, ixD_tup, ixD_flst, atK_some, at0, at1, at2, at3, on_ok, srcM_run, srcA_run, srcD_str, srcD_tup, srcD_flst, guard_none, List.map_cons, List.map_nil, List.length_cons, List.length_nil, Nat.reduceAdd, Nat.reduceSub, Nat.sub_self, List.replicate_succ, List.replicate_zero, List.append_nil, List.nil_append, List.cons_append, List.getElem?_cons_zero, List.getElem?_cons_succ, List.set_cons_zero, List.set_cons_succ, if_true, Bool.not_true, Bool.not_false, Bool.false_eq_true, if_false, Bool.true_and, Bool.false_and, Bool.and_true, Bool.and_false, Bool.true_or, Bool.false_or, Bool.or_true, Bool.or_false, isi_lt h]
theorem corner_non {s : S} : F_is_corner [.non] s = .ok (.bl false) s := by
  unfold F_is_corner m_is_corner F_is_corner_from m_is_corner_from
  simp only [fnM_run, startE, seqS_run, setS_run, dropS_run, retS_run, nxS_run, ifS_run, asgS_run, parS_run, forS_run, gNm_run, gNilM_run, gConsM_run, gTup2, gTup3, gSubM_run, seqK_nx, seqK_rt, seqK_bk, seqK_ct, outM_rt, outM_nx, lenM0, lenM1, lenM2, lenM3, lenM4, lenM5, callM_run, consA_run, nilA_run, tupM_run, lstM_run, tupK_1, tupK_2, tupK_3, tupK_4, binM_run, unM_run, tB_run, bB_bl, chainM_run, chK_t, chK_f, truM_run, andM_run, orM_run, notM_run, andT_run, orT_run, notT_run, ifM_run, cM_run, varM_run, varK_ok, yesT_run, addD_int, subD_int, negD_int, ltD_int, leD_int, gtD_int, geD_int, eqD_int, eqD_bl, eqD_str, neD_int, neD_bl, isnD_non, isnD_int, isnD_bl, isnD_str, isnD_tup, isnD_ptr, isbD_bl, notbD_bl, truD_bl, and_bl, or_bl, and_tt, or_tt, fun1_run, fun2_run, intD_int, intD_bl, absD_int, gcdD_int, lenD_tup, ixS_int, ixD_tup, ixD_flst, atK_some, at0, at1, at2, at3, on_ok, srcM_run, srcA_run, srcD_str, srcD_tup, srcD_flst, guard_none, List.map_cons, List.map_nil, List.length_cons, List.length_nil, Nat.reduceAdd, Nat.reduceSub, Nat.sub_self, List.replicate_succ, List.replicate_zero, List.append_nil, List.nil_append, List.cons_append, List.getElem?_cons_zero, List.getElem?_cons_succ, List.set_cons_zero, List.set_cons_succ, if_true, Bool.not_true, Bool.not_false, Bool.false_eq_true, if_false, Bool.true_and, Bool.false_and, Bool.and_true, Bool.and_false, Bool.true_or, Bool.false_or, Bool.or_true, Bool.or_false, isi_nt]
theorem corner_i {i : Int} {s : S} : F_is_corner [.int i] s = .ok (.bl false) s := by
  unfold F_is_corner m_is_corner F_is_corner_from m_is_corner_from
  simp only [fnM_run, startE, seqS_run, setS_run, dropS_run, retS_run, nxS_run, ifS_run, asgS_run, parS_run, forS_run, gNm_run, gNilM_run, gConsM_run, gTup2, gTup3, gSubM_run, seqK_nx, seqK_rt, seqK_bk, seqK_ct, outM_rt, outM_nx, lenM0, lenM1, lenM2, lenM3, lenM4, lenM5, callM_run, consA_run, nilA_run, tupM_run, lstM_run, tupK_1, tupK_2, tupK_3, tupK_4, binM_run, unM_run, tB_run, bB_bl, chainM_run, chK_t, chK_f, truM_run, andM_run, orM_run, notM_run, andT_run, orT_run, notT_run, ifM_run, cM_run, varM_run, varK_ok, yesT_run, addD_int, subD_int, negD_int, ltD_int, leD_int, gtD_int, geD_int, eqD_int, eqD_bl, eqD_str, neD_int, neD_bl, isnD_non, isnD_int, isnD_bl, isnD_str, isnD_tup, isnD_ptr, isbD_bl, notbD_bl, truD_bl, and_bl, or_bl, and_tt, or_tt, fun1_run, fun2_run, intD_int, intD_bl, absD_int, gcdD_int, lenD_tup, ixS_int, ixD_tup, ixD_flst, atK_some, at0, at1, at2, at3, on_ok, srcM_run, srcA_run, srcD_str, srcD_tup, srcD_flst, guard_none, List.map_cons, List.map_nil, List.length_cons, List.length_nil, Nat.reduceAdd, Nat.reduceSub, Nat.sub_self, List.replicate_succ, List.replicate_zero, List.append_nil, List.nil_append, List.cons_append, List.getElem?_cons_zero, List.getElem?_cons_succ, List.set_cons_zero, List.set_cons_succ, if_true, Bool.not_true, Bool.not_false, Bool.false_eq_true, if_false, Bool.true_and, Bool.false_and, Bool.and_true, Bool.and_false, Bool.true_or, Bool.false_or, Bool.or_true, Bool.or_false, isi_it]
theorem name_i {i : Int} {s : S} : F_is_name [.int i] s = .ok (.bl false) s := by
  unfold F_is_name m_is_name
  simp only [fnM_run, startE, seqS_run, setS_run, dropS_run, retS_run, nxS_run, ifS_run, asgS_run, parS_run, forS_run, gNm_run, gNilM_run, gConsM_run, gTup2, gTup3, gSubM_run, seqK_nx, seqK_rt, seqK_bk, seqK_ct, outM_rt, outM_nx, lenM0, lenM1, lenM2, lenM3, lenM4, lenM5, callM_run, consA_run, nilA_run, tupM_run, lstM_run, tupK_1, tupK_2, tupK_3, tupK_4, binM_run, unM_run, tB_run, bB_bl, chainM_run, chK_t, chK_f, truM_run, andM_run, orM_run, notM_run, andT_run, orT_run, notT_run, ifM_run, cM_run, varM_run, varK_ok, yesT_run, addD_int, subD_int, negD_int, ltD_int, leD_int, gtD_int, geD_int, eqD_int, eqD_bl, eqD_str, neD_int, neD_bl, isnD_non, isnD_int, isnD_bl, isnD_str, isnD_tup, isnD_ptr, isbD_bl, notbD_bl, truD_bl, and_bl, or_bl, and_tt, or_tt, fun1_run, fun2_run, intD_int, intD_bl, absD_int, gcdD_int, lenD_tup, ixS_int, ixD_tup, ixD_flst, atK_some, at0, at1, at2, at3, on_ok, srcM_run, srcA_run, srcD_str, srcD_tup, srcD_flst, guard_none, List.map_cons, List.map_nil, List.length_cons, List.length_nil, Nat.reduceAdd, Nat.reduceSub, Nat.sub_self, List.replicate_succ, List.replicate_zero, List.append_nil, List.nil_append, List.cons_append, List.getElem?_cons_zero, List.getElem?_cons_succ, List.set_cons_zero, List.set_cons_succ, if_true, Bool.not_true, Bool.not_false, Bool.false_eq_true, if_false, Bool.true_and, Bool.false_and, Bool.and_true, Bool.and_false, Bool.true_or, Bool.false_or, Bool.or_true, Bool.or_false, isi_is]
theorem name_n {s : S} : F_is_name [.non] s = .ok (.bl false) s := by
  unfold F_is_name m_is_name
  simp only [fnM_run, startE, seqS_run, setS_run, dropS_run, retS_run, nxS_run, ifS_run, asgS_run, parS_run, forS_run, gNm_run, gNilM_run, gConsM_run, gTup2, gTup3, gSubM_run, seqK_nx, seqK_rt, seqK_bk, seqK_ct, outM_rt, outM_nx, lenM0, lenM1, lenM2, lenM3, lenM4, lenM5, callM_run, consA_run, nilA_run, tupM_run, lstM_run, tupK_1, tupK_2, tupK_3, tupK_4, binM_run, unM_run, tB_run, bB_bl, chainM_run, chK_t, chK_f, truM_run, andM_run, orM_run, notM_run, andT_run, orT_run, notT_run, ifM_run, cM_run, varM_run, varK_ok, yesT_run, addD_int, subD_int, negD_int, ltD_int, leD_int, gtD_int, geD_int, eqD_int, eqD_bl, eqD_str, neD_int, neD_bl, isnD_non, isnD_int, isnD_bl, isnD_str, isnD_tup, isnD_ptr, isbD_bl, notbD_bl, truD_bl, and_bl, or_bl, and_tt, or_tt, fun1_run, fun2_run, intD_int, intD_bl, absD_int, gcdD_int, lenD_tup, ixS_int, ixD_tup, ixD_flst, atK_some, at0, at1, at2, at3, on_ok, srcM_run, srcA_run, srcD_str, srcD_tup, srcD_flst, guard_none, List.map_cons, List.map_nil, List.length_cons, List.length_nil, Nat.reduceAdd, Nat.reduceSub, Nat.sub_self, List.replicate_succ, List.replicate_zero, List.append_nil, List.nil_append, List.cons_append, List.getElem?_cons_zero, List.getElem?_cons_succ, List.set_cons_zero, List.set_cons_succ, if_true, Bool.not_true, Bool.not_false, Bool.false_eq_true, if_false, Bool.true_and, Bool.false_and, Bool.and_true, Bool.and_false, Bool.true_or, Bool.false_or, Bool.or_true, Bool.or_false, isi_ns]
theorem name_t {ds : List D} {s : S} : F_is_name [.tup ds] s = .ok (.bl false) s := by
  unfold F_is_name m_is_name
  simp only [fnM_run, startE, seqS_run, setS_run, dropS_run, retS_run, nxS_run, ifS_run, asgS_run, parS_run, forS_run, gNm_run, gNilM_run, gConsM_run, gTup2, gTup3, gSubM_run, seqK_nx, seqK_rt, seqK_bk, seqK_ct, outM_rt, outM_nx, lenM0, lenM1, lenM2, lenM3, lenM4, lenM5, callM_run, consA_run, nilA_run, tupM_run, lstM_run, tupK_1, tupK_2, tupK_3, tupK_4, binM_run, unM_run, tB_run, bB_bl, chainM_run, chK_t, chK_f, truM_run, andM_run, orM_run, notM_run, andT_run, orT_run, notT_run, ifM_run, cM_run, varM_run, varK_ok, yesT_run, addD_int, subD_int, negD_int, ltD_int, leD_int, gtD_int, geD_int, eqD_int, eqD_bl, eqD_str, neD_int, neD_bl, isnD_non, isnD_int, isnD_bl, isnD_str, isnD_tup, isnD_ptr, isbD_bl, notbD_bl, truD_bl, and_bl, or_bl, and_tt, or_tt, fun1_run, fun2_run, intD_int, intD_bl, absD_int, gcdD_int, lenD_tup, ixS_int, ixD_tup, ixD_flst, atK_some, at0, at1, at2, at3, on_ok, srcM_run, srcA_run, srcD_str, srcD_tup, srcD_flst, guard_none, List.map_cons, List.map_nil, List.length_cons, List.length_nil, Nat.reduceAdd, Nat.reduceSub, Nat.sub_self, List.replicate_succ, List.replicate_zero, List.append_nil, List.nil_append, List.cons_append, List.getElem?_cons_zero, List.getElem?_cons_succ, List.set_cons_zero, List.set_cons_succ, if_true, Bool.not_true, Bool.not_false, Bool.false_eq_true, if_false, Bool.true_and, Bool.false_and, Bool.and_true, Bool.and_false, Bool.true_or, Bool.false_or, Bool.or_true, Bool.or_false, isi_ts]
theorem name_str {x : Str} {b : Bool} (hx : x.length ≤ 100000) (h : nameOk x = b) (s : S) : ∃ g, F_is_name [.str x] s = .ok (.bl b) (s ++ g) := by
  subst h
  exact run_is_name hx
theorem run_point {i j : Int} {s : S} : F_point [.tup [.int i, .int j]] s = .ok (pt i 1 j 1) s := by
  unfold F_point m_point
  simp only [fnM_run, startE, seqS_run, setS_run, dropS_run, retS_run, nxS_run, ifS_run, asgS_run, parS_run, forS_run, gNm_run, gNilM_run, gConsM_run, gTup2, gTup3, gSubM_run, seqK_nx, seqK_rt, seqK_bk, seqK_ct, outM_rt, outM_nx, lenM0, lenM1, lenM2, lenM3, lenM4, lenM5, callM_run, consA_run, nilA_run, tupM_run, lstM_run, tupK_1, tupK_2, tupK_3, tupK_4, binM_run, unM_run, tB_run, bB_bl, chainM_run, chK_t, chK_f, truM_run, andM_run, orM_run, notM_run, andT_run, orT_run, notT_run, ifM_run, cM_run, varM_run, varK_ok, yesT_run, addD_int, subD_int, negD_int, ltD_int, leD_int, gtD_int, geD_int, eqD_int, eqD_bl, eqD_str, neD_int, neD_bl, isnD_non, isnD_int, isnD_bl, isnD_str, isnD_tup, isnD_ptr, isbD_bl, notbD_bl, truD_bl, and_bl, or_bl, and_tt, or_tt, fun1_run, fun2_run, intD_int, intD_bl, absD_int, gcdD_int, lenD_tup, ixS_int, ixD_tup, ixD_flst, atK_some, at0, at1, at2, at3, on_ok, srcM_run, srcA_run, srcD_str, srcD_tup, srcD_flst, guard_none, List.map_cons, List.map_nil, List.length_cons, List.length_nil, Nat.reduceAdd, Nat.reduceSub, Nat.sub_self, List.replicate_succ, List.replicate_zero, List.append_nil, List.nil_append, List.cons_append, List.getElem?_cons_zero, List.getElem?_cons_succ, List.set_cons_zero, List.set_cons_succ, if_true, Bool.not_true, Bool.not_false, Bool.false_eq_true, if_false, Bool.true_and, Bool.false_and, Bool.and_true, Bool.and_false, Bool.true_or, Bool.false_or, Bool.or_true, Bool.or_false]
theorem ibeq_self (a : Int) : (a == a) = true := by
  rw [beq_iff_eq]
theorem ne_pt {a b c d : Int} {s : S} : neD (pt a b c d) (pt a b c d) s = .ok (.bl false) s := by
  have e : eqD (pt a b c d) (pt a b c d) s = .ok (.bl true) s := by
    have e1 : eqD (pt a b c d) (pt a b c d) s = .ok (.bl (PyData.eqv (.tuple [.tuple [.int a, .int b], .tuple [.int c, .int d]]) (.tuple [.tuple [.int a, .int b], .tuple [.int c, .int d]]))) s := rfl
    rw [e1]
    have q : PyData.eqv (.tuple [.tuple [.int a, .int b], .tuple [.int c, .int d]]) (.tuple [.tuple [.int a, .int b], .tuple [.int c, .int d]]) = true := by
      show (((a == a) && ((b == b) && true)) && (((c == c) && ((d == d) && true)) && true)) = true
      rw [ibeq_self, ibeq_self, ibeq_self, ibeq_self]
      rfl
    rw [q]
  rw [neD_run, e, on_ok]
  rfl
theorem any_false {n : Nat} {s : S} : anyD (.ptr s.length) (s ++ [.lst (List.replicate n (.bl false))]) = .ok (.bl false) (s ++ [.lst (List.replicate n (.bl false))]) := by
  have h := any_new (s := s) (bs := List.replicate n false)
  rw [List.map_replicate] at h
  rw [h]
  have : (List.replicate n false).any id = false := by
    clear h
    induction n with
    | zero => rfl
    | succ n ih => rw [List.replicate_succ, List.any_cons, ih]; rfl
  rw [this]
abbrev BAD (k : Nat) : List D := [.tup [.int 10001, .int 0], .tup [.int 0, .int (-10001)], .tup [.int 0], .tup [.int 0, .int 0, .int 0], .ptr k, .tup [.bl true, .int 0], .tup [.int 0, .str "0"], .non, .int 5]
theorem bad_corners {s : S} {k m : Nat} (h : s[k]? = some (.lst [.int 0, .int 0])) (h2 : s[m]? = some (.lst (BAD k))) {env : PL.Env} (e1 : env[4]? = some (some (.ptr m))) (e2 : env.length = 12) : callM (fun1 anyD) (consA (compM (srcM (varM 4)) (gNm 10) yesT (callM (lenM 1 F_is_corner) (consA (varM 10) nilA)) [10]) nilA) env s = .ok (.bl false) (s ++ [.lst (List.replicate 9 (.bl false))]) := by
  have hc : collM ⟨BAD k, some (m, BAD k)⟩ (gNm 10) yesT (callM (lenM 1 F_is_corner) (consA (varM 10) nilA)) (wipeE env [10]) (BAD k) s = .ok ((BAD k).map fun _ => .bl false) s := by
    refine coll_map (r := ⟨BAD k, some (m, BAD k)⟩) h2 fun d hd => ?_
    have hw : ((wipeE env [10]).set 10 (some d))[10]? = some (some d) := by
      refine List.getElem?_set_self ?_
      show 10 < (env.set 10 none).length
      rw [List.length_set, e2]
      decide
    rw [gNm_run, on_ok, yesT_run, on_ok]
    simp only [fnM_run, startE, seqS_run, setS_run, dropS_run, retS_run, nxS_run, ifS_run, asgS_run, parS_run, forS_run, gNm_run, gNilM_run, gConsM_run, gTup2, gTup3, gSubM_run, seqK_nx, seqK_rt, seqK_bk, seqK_ct, outM_rt, outM_nx, lenM0, lenM1, lenM2, lenM3, lenM4, lenM5, callM_run, consA_run, nilA_run, tupM_run, lstM_run, tupK_1, tupK_2, tupK_3, tupK_4, binM_run, unM_run, tB_run, bB_bl, chainM_run, chK_t, chK_f, truM_run, andM_run, orM_run, notM_run, andT_run, orT_run, notT_run, ifM_run, cM_run, varM_run, varK_ok, yesT_run, addD_int, subD_int, negD_int, ltD_int, leD_int, gtD_int, geD_int, eqD_int, eqD_bl, eqD_str, neD_int, neD_bl, isnD_non, isnD_int, isnD_bl, isnD_str, isnD_tup, isnD_ptr, isbD_bl, notbD_bl, truD_bl, and_bl, or_bl, and_tt, or_tt, fun1_run, fun2_run, intD_int, intD_bl, absD_int, gcdD_int, lenD_tup, ixS_int, ixD_tup, ixD_flst, atK_some, at0, at1, at2, at3, on_ok, srcM_run, srcA_run, srcD_str, srcD_tup, srcD_flst, guard_none, List.map_cons, List.map_nil, List.length_cons, List.length_nil, Nat.reduceAdd, Nat.reduceSub, Nat.sub_self, List.replicate_succ, List.replicate_zero, List.append_nil, List.nil_append, List.cons_append, List.getElem?_cons_zero, List.getElem?_cons_succ, List.set_cons_zero, List.set_cons_succ, if_true, Bool.not_true, Bool.not_false, Bool.false_eq_true, if_false, Bool.true_and, Bool.false_and, Bool.and_true, Bool.and_false, Bool.true_or, Bool.false_or, Bool.or_true, Bool.or_false, hw]
    have : d ∈ BAD k := hd
    simp only [BAD, List.mem_cons, List.not_mem_nil, or_false] at this
    rcases this with rfl | rfl | rfl | rfl | rfl | rfl | rfl | rfl | rfl
    · exact run_corner_int
    · exact run_corner_int
    · exact corner_1
    · exact corner_3
    · exact corner_lst h
    · exact corner_bl
    · exact corner_str
    · exact corner_non
    · exact corner_i
  have hz : szM (BAD k).length s = .ok () s := szM_run (by show 9 ≤ 100000; decide)
  have hm : ((BAD k).map fun _ => D.bl false) = List.replicate 9 (.bl false) := rfl
  rw [callM_run, consA_run, compM_run, srcM_run, varM_run, e1, varK_ok, on_ok, srcD_lst h2, on_ok]
  show (((szM (BAD k).length s).on _).on _).on _ = _
  rw [hz, on_ok, hc, on_ok, hm, on_ok, nilA_run, on_ok, on_ok, fun1_run, any_false]
abbrev BADN : List D := [.str "", .str "abcdefghijklm", .str "A", .str "a1", .str "a b", .int 5, .non, .tup [.str "a"]]
theorem bad_names {s : S} {env : PL.Env} (e2 : env.length = 12) : ∃ g, callM (fun1 anyD) (consA (compM (srcM (lstM (consA (cM (.str "")) (consA (cM (.str "abcdefghijklm")) (consA (cM (.str "A")) (consA (cM (.str "a1")) (consA (cM (.str "a b")) (consA (cM (.int 5)) (consA (cM .non) (consA (tupM (consA (cM (.str "a")) nilA)) nilA)))))))))) (gNm 10) yesT (callM (lenM 1 F_is_name) (consA (varM 10) nilA)) [10]) nilA) env s = .ok (.bl false) (s ++ g) := by
  have hn : (s ++ [Cell.lst BADN])[s.length]? = some (.lst BADN) := new_at
  obtain ⟨g, hc⟩ : ∃ g, collM ⟨BADN, some (s.length, BADN)⟩ (gNm 10) yesT (callM (lenM 1 F_is_name) (consA (varM 10) nilA)) (wipeE env [10]) BADN (s ++ [Cell.lst BADN]) = .ok (BADN.map fun _ => .bl false) ((s ++ [Cell.lst BADN]) ++ g) := by
    refine coll_app (r := ⟨BADN, some (s.length, BADN)⟩) hn fun d hd s' _ => ?_
    have hw : ((wipeE env [10]).set 10 (some d))[10]? = some (some d) := by
      refine List.getElem?_set_self ?_
      show 10 < (env.set 10 none).length
      rw [List.length_set, e2]
      decide
    rw [gNm_run, on_ok, yesT_run, on_ok]
    simp only [fnM_run, startE, seqS_run, setS_run, dropS_run, retS_run, nxS_run, ifS_run, asgS_run, parS_run, forS_run, gNm_run, gNilM_run, gConsM_run, gTup2, gTup3, gSubM_run, seqK_nx, seqK_rt, seqK_bk, seqK_ct, outM_rt, outM_nx, lenM0, lenM1, lenM2, lenM3, lenM4, lenM5, callM_run, consA_run, nilA_run, tupM_run, lstM_run, tupK_1, tupK_2, tupK_3, tupK_4, binM_run, unM_run, tB_run, bB_bl, chainM_run, chK_t, chK_f, truM_run, andM_run, orM_run, notM_run, andT_run, orT_run, notT_run, ifM_run, cM_run, varM_run, varK_ok, yesT_run, addD_int, subD_int, negD_int, ltD_int, leD_int, gtD_int, geD_int, eqD_int, eqD_bl, eqD_str, neD_int, neD_bl, isnD_non, isnD_int, isnD_bl, isnD_str, isnD_tup, isnD_ptr, isbD_bl, notbD_bl, truD_bl, and_bl, or_bl, and_tt, or_tt, fun1_run, fun2_run, intD_int, intD_bl, absD_int, gcdD_int, lenD_tup, ixS_int, ixD_tup, ixD_flst, atK_some, at0, at1, at2, at3, on_ok, srcM_run, srcA_run, srcD_str, srcD_tup, srcD_flst, guard_none, List.map_cons, List.map_nil, List.length_cons, List.length_nil, Nat.reduceAdd, Nat.reduceSub, Nat.sub_self, List.replicate_succ, List.replicate_zero, List.append_nil, List.nil_append, List.cons_append, List.getElem?_cons_zero, List.getElem?_cons_succ, List.set_cons_zero, List.set_cons_succ, if_true, Bool.not_true, Bool.not_false, Bool.false_eq_true, if_false, Bool.true_and, Bool.false_and, Bool.and_true, Bool.and_false, Bool.true_or, Bool.false_or, Bool.or_true, Bool.or_false, hw]
    have : d ∈ BADN := hd
    simp only [BADN, List.mem_cons, List.not_mem_nil, or_false] at this
    have st : ∀ {x : Str}, x.length ≤ 100000 → nameOk x = false → ∃ g1, F_is_name [.str x] s' = .ok (.bl false) (s' ++ g1) := fun h1 h2 => name_str h1 h2 s'
    rcases this with rfl | rfl | rfl | rfl | rfl | rfl | rfl | rfl
    · exact st (by decide +kernel) (by decide +kernel)
    · exact st (by decide +kernel) (by decide +kernel)
    · exact st (by decide +kernel) (by decide +kernel)
    · exact st (by decide +kernel) (by decide +kernel)
    · exact st (by decide +kernel) (by decide +kernel)
    · exact ⟨[], by rw [List.append_nil]; exact name_i⟩
    · exact ⟨[], by rw [List.append_nil]; exact name_n⟩
    · exact ⟨[], by rw [List.append_nil]; exact name_t⟩
  have hz : szM BADN.length (s ++ [Cell.lst BADN]) = .ok () (s ++ [Cell.lst BADN]) := szM_run (by decide)
  have hm : (BADN.map fun _ => D.bl false) = List.replicate 8 (.bl false) := rfl
  have hl : lstK BADN s = .ok (.ptr s.length) (s ++ [.lst BADN]) := lstK_le (by decide)
  refine ⟨[.lst BADN] ++ g ++ [.lst (List.replicate 8 (.bl false))], ?_⟩
  have hs : srcM (lstM (consA (cM (.str "")) (consA (cM (.str "abcdefghijklm")) (consA (cM (.str "A")) (consA (cM (.str "a1")) (consA (cM (.str "a b")) (consA (cM (.int 5)) (consA (cM .non) (consA (tupM (consA (cM (.str "a")) nilA)) nilA))))))))) env s = .ok ⟨BADN, some (s.length, BADN)⟩ (s ++ [.lst BADN]) := by
    simp only [fnM_run, startE, seqS_run, setS_run, dropS_run, retS_run, nxS_run, ifS_run, asgS_run, parS_run, forS_run, gNm_run, gNilM_run, gConsM_run, gTup2, gTup3, gSubM_run, seqK_nx, seqK_rt, seqK_bk, seqK_ct, outM_rt, outM_nx, lenM0, lenM1, lenM2, lenM3, lenM4, lenM5, callM_run, consA_run, nilA_run, tupM_run, lstM_run, tupK_1, tupK_2, tupK_3, tupK_4, binM_run, unM_run, tB_run, bB_bl, chainM_run, chK_t, chK_f, truM_run, andM_run, orM_run, notM_run, andT_run, orT_run, notT_run, ifM_run, cM_run, varM_run, varK_ok, yesT_run, addD_int, subD_int, negD_int, ltD_int, leD_int, gtD_int, geD_int, eqD_int, eqD_bl, eqD_str, neD_int, neD_bl, isnD_non, isnD_int, isnD_bl, isnD_str, isnD_tup, isnD_ptr, isbD_bl, notbD_bl, truD_bl, and_bl, or_bl, and_tt, or_tt, fun1_run, fun2_run, intD_int, intD_bl, absD_int, gcdD_int, lenD_tup, ixS_int, ixD_tup, ixD_flst, atK_some, at0, at1, at2, at3, on_ok, srcM_run, srcA_run, srcD_str, srcD_tup, srcD_flst, guard_none, List.map_cons, List.map_nil, List.length_cons, List.length_nil, Nat.reduceAdd, Nat.reduceSub, Nat.sub_self, List.replicate_succ, List.replicate_zero, List.append_nil, List.nil_append, List.cons_append, List.getElem?_cons_zero, List.getElem?_cons_succ, List.set_cons_zero, List.set_cons_succ, if_true, Bool.not_true, Bool.not_false, Bool.false_eq_true, if_false, Bool.true_and, Bool.false_and, Bool.and_true, Bool.and_false, Bool.true_or, Bool.false_or, Bool.or_true, Bool.or_false, hl]
    exact srcD_lst hn
  rw [callM_run, consA_run, compM_run, hs, on_ok]
  show (((szM BADN.length (s ++ [Cell.lst BADN])).on _).on _).on _ = _
  rw [hz, on_ok, hc, on_ok, hm, on_ok, nilA_run, on_ok, on_ok, fun1_run, any_false]
  simp only [List.append_assoc]
theorem law_true (ns : List Int) (h : ns.length ≤ 63) : ∃ s', F_law [.flst (ns.map D.int)] [] = .ok (.bl true) s' := by
  obtain ⟨s0, e0, P0, _⟩ := run_pot ns h
  obtain ⟨env', s1, e1, hl, h0, h1, P1⟩ : ∃ (env' : PL.Env) (s' : S), loopM ⟨rngItems 0 4, none⟩ (gNm 2) LAWBODY (rngItems 0 4) [some (.flst (ns.map D.int)), some (.ptr 1), none, none, none, none, none, none, none, none, none, none] s0 = .ok (.nx env') s' ∧ Keep (some (.flst (ns.map D.int))) env' s' := by
    refine loop_all (r := ⟨rngItems 0 4, none⟩) (fun _ env s => Keep (some (.flst (ns.map D.int))) env s) (fun _ _ _ _ => trivial) ?_ (rngItems 0 4) 0 _ s0 rfl (Nat.zero_le _) ⟨rfl, rfl, rfl, P0⟩
    intro i z env s hz k
    obtain ⟨_, rfl⟩ := rng_at hz
    exact body_true k
  obtain ⟨x0, x1, x2, x3, x4, x5, x6, x7, x8, x9, x10, x11, rfl⟩ : ∃ x0 x1 x2 x3 x4 x5 x6 x7 x8 x9 x10 x11, env' = [x0, x1, x2, x3, x4, x5, x6, x7, x8, x9, x10, x11] := by
    match env', hl with
    | [x0, x1, x2, x3, x4, x5, x6, x7, x8, x9, x10, x11], _ => exact ⟨x0, x1, x2, x3, x4, x5, x6, x7, x8, x9, x10, x11, rfl⟩
  cases h0
  cases h1
  obtain ⟨v, c', e2, v0, v1, P2⟩ := run_next (l := 20001) P1 (by decide) (bt_small (by decide) (by decide))
  obtain ⟨s2, hs2⟩ : ∃ s2, s2 = s1.set 1 c' := ⟨_, rfl⟩
  rw [← hs2] at e2 P2
  have k1 : ∀ s, F_is_corner [.tup [.int (v - 10000), .int (-(v - 10000))]] s = .ok (.bl true) s := fun s => by
    rw [run_corner_int, decide_eq_true (by omega : -10000 ≤ v - 10000), decide_eq_true (by omega : v - 10000 ≤ 10000), decide_eq_true (by omega : -10000 ≤ -(v - 10000)), decide_eq_true (by omega : -(v - 10000) ≤ 10000)]
    rfl
  obtain ⟨s4, hs4⟩ : ∃ s4, s4 = s2 ++ [Cell.lst [D.int 0, D.int 0]] ++ [Cell.lst (BAD s2.length)] := ⟨_, rfl⟩
  have at1 : s4[s2.length]? = some (.lst [.int 0, .int 0]) := by
    rw [hs4]
    exact old_at new_at
  have at2 : s4[(s2 ++ [Cell.lst [D.int 0, D.int 0]]).length]? = some (.lst (BAD s2.length)) := by
    rw [hs4]
    exact new_at
  have hb : lstK (BAD s2.length) (s2 ++ [Cell.lst [D.int 0, D.int 0]]) = .ok (.ptr (s2 ++ [Cell.lst [D.int 0, D.int 0]]).length) s4 := by
    rw [hs4]
    exact lstK_le (by show 9 ≤ 100000; decide)
  have hb2 : lstK [.int 0, .int 0] s2 = .ok (.ptr s2.length) (s2 ++ [Cell.lst [D.int 0, D.int 0]]) := lstK_le (by decide)
  obtain ⟨env6, hE⟩ : ∃ e : PL.Env, e = [some (.flst (ns.map D.int)), some (.ptr 1), x2, some (.int (v - 10000)), some (.ptr (s2 ++ [Cell.lst [D.int 0, D.int 0]]).length), x5, x6, x7, x8, x9, x10, x11] := ⟨_, rfl⟩
  have a1 := bad_corners at1 at2 (env := env6) (by rw [hE]; rfl) (by rw [hE]; rfl)
  obtain ⟨g1, a2⟩ := name_str (x := "abcdefghijkl") (b := true) (by decide +kernel) (by decide +kernel) (s4 ++ [.lst (List.replicate 9 (.bl false))])
  obtain ⟨g2, a3⟩ := bad_names (env := env6) (s := s4 ++ [.lst (List.replicate 9 (.bl false))] ++ g1) (by rw [hE]; rfl)
  refine ⟨s4 ++ [.lst (List.replicate 9 (.bl false))] ++ g1 ++ g2, ?_⟩
  have e1' := e1
  unfold LAWBODY REST0 REST1 REST2 at e1'
  unfold F_law m_law
  obtain ⟨X, hX⟩ : ∃ X : PL.Env → M D, X = callM (fun1 anyD) (consA (compM (srcM (varM 4)) (gNm 10) yesT (callM (lenM 1 F_is_corner) (consA (varM 10) nilA)) [10]) nilA) := ⟨_, rfl⟩
  obtain ⟨Y, hY⟩ : ∃ Y : PL.Env → M D, Y = callM (fun1 anyD) (consA (compM (srcM (lstM (consA (cM (.str "")) (consA (cM (.str "abcdefghijklm")) (consA (cM (.str "A")) (consA (cM (.str "a1")) (consA (cM (.str "a b")) (consA (cM (.int 5)) (consA (cM .non) (consA (tupM (consA (cM (.str "a")) nilA)) nilA)))))))))) (gNm 10) yesT (callM (lenM 1 F_is_name) (consA (varM 10) nilA)) [10]) nilA) := ⟨_, rfl⟩
  rw [hE, ← hX] at a1
  rw [hE, ← hY] at a3
  rw [← hX, ← hY]
  obtain ⟨s5, h5⟩ : ∃ s5, s5 = s4 ++ [Cell.lst (List.replicate 9 (D.bl false))] := ⟨_, rfl⟩
  rw [← h5] at a1 a2 a3 ⊢
  simp only [fnM_run, startE, seqS_run, setS_run, dropS_run, retS_run, nxS_run, ifS_run, asgS_run, parS_run, forS_run, gNm_run, gNilM_run, gConsM_run, gTup2, gTup3, gSubM_run, seqK_nx, seqK_rt, seqK_bk, seqK_ct, outM_rt, outM_nx, lenM0, lenM1, lenM2, lenM3, lenM4, lenM5, callM_run, consA_run, nilA_run, tupM_run, lstM_run, tupK_1, tupK_2, tupK_3, tupK_4, binM_run, unM_run, tB_run, bB_bl, chainM_run, chK_t, chK_f, truM_run, andM_run, orM_run, notM_run, andT_run, orT_run, notT_run, ifM_run, cM_run, varM_run, varK_ok, yesT_run, addD_int, subD_int, negD_int, ltD_int, leD_int, gtD_int, geD_int, eqD_int, eqD_bl, eqD_str, neD_int, neD_bl, isnD_non, isnD_int, isnD_bl, isnD_str, isnD_tup, isnD_ptr, isbD_bl, notbD_bl, truD_bl, and_bl, or_bl, and_tt, or_tt, fun1_run, fun2_run, intD_int, intD_bl, absD_int, gcdD_int, lenD_tup, ixS_int, ixD_tup, ixD_flst, atK_some, at0, at1, at2, at3, on_ok, srcM_run, srcA_run, srcD_str, srcD_tup, srcD_flst, guard_none, List.map_cons, List.map_nil, List.length_cons, List.length_nil, Nat.reduceAdd, Nat.reduceSub, Nat.sub_self, List.replicate_succ, List.replicate_zero, List.append_nil, List.nil_append, List.cons_append, List.getElem?_cons_zero, List.getElem?_cons_succ, List.set_cons_zero, List.set_cons_succ, if_true, Bool.not_true, Bool.not_false, Bool.false_eq_true, if_false, Bool.true_and, Bool.false_and, Bool.and_true, Bool.and_false, Bool.true_or, Bool.false_or, Bool.or_true, Bool.or_false, e0, rng1_run (show -4000000000 ≤ (4 : Int) ∧ (4 : Int) ≤ 4000000000 by decide), show (4 : Int).toNat = 4 from rfl, e1', e2, k1, run_point, ne_pt, eq_self, decide_true, hb2, hb, a1, a2, a3]

section
variable {P : Program} {w : World} {K : PySem.W.Frag} {mg : Str → Option Value} {base : Heap}
theorem ok__law_pot {f__law_pot : Addr} {fd__law_pot : FuncData} (D__law_pot : DefOk K mg "_law_pot" s__law_pot ["script"] f__law_pot fd__law_pot)
    (z_int : mg "int" = none)
    (z_list : mg "list" = none) : FnOk P w K mg base CX0 1 f__law_pot fd__law_pot ["script"] (spM K 1 F__law_pot) := by
  exact fn_ok D__law_pot.fn sc__law_pot rfl fun cdv A outer s H E hr =>
      (sss_cons (ss_set 1 sc__law_pot.nd se_int)
      (sss_cons (ss_for PassesOwn.never rfl (si_seq (se_var 0)) (sg_name 2 sc__law_pot.nd) (sss_one (ss_set 1 sc__law_pot.nd (se_mod (se_callTy cr_int (by rfl) z_int (by decide +kernel) (sa_cons (se_add (se_mul (se_var 1) se_int) (se_var 2)) sa_nil)) se_int))))
      (sss_one (ss_ret (se_lst (sa_cons (se_callTy cr_list (by rfl) z_list (by decide +kernel) (sa_cons (se_var 0) sa_nil)) (sa_cons se_int (sa_cons se_int (sa_cons (se_var 1) sa_nil)))))))))
theorem ok__law_next {f__law_next : Addr} {fd__law_next : FuncData} (D__law_next : DefOk K mg "_law_next" s__law_next ["pot", "limit"] f__law_next fd__law_next)
    (z_len : mg "len" = none)
    (z_int : mg "int" = none)
    (z_abs : mg "abs" = none) : FnOk P w K mg base CX0 1 f__law_next fd__law_next ["pot", "limit"] (spM K 2 F__law_next) := by
  exact fn_ok D__law_next.fn sc__law_next rfl fun cdv A outer s H E hr =>
      (sss_cons (ss_if (st_w (sw_and (st_cmp (op_eqDD hr.units) (se_ix (hu_of hr) (se_var 0) se_int (fun _ _ => rfl)) se_int (by first | exact nomark _ | rfl)) (sw_and1 (st_cmp (op_ltD hr.units0) (se_ix (hu_of hr) (se_var 0) se_int (fun _ _ => rfl)) (se_callB cr_len (by rfl) z_len (by decide +kernel) (sa_cons (se_ix (hu_of hr) (se_var 0) se_int (fun _ _ => rfl)) sa_nil)) (by first | exact nomark _ | rfl))))) (sss_cons (ss_set 3 sc__law_next.nd (se_callB cr_abs (by rfl) z_abs (by decide +kernel) (sa_cons (se_callTy cr_int (by rfl) z_int (by decide +kernel) (sa_cons (se_ix (hu_of hr) (se_ix (hu_of hr) (se_var 0) se_int (fun _ _ => rfl)) (se_ix (hu_of hr) (se_var 0) se_int (fun _ _ => rfl)) (fun _ _ => rfl)) sa_nil)) sa_nil)))
      (sss_cons (ss_asg (se_add (se_ix (hu_of hr) (se_var 0) se_int (fun _ _ => rfl)) se_int) (sg_subL (se_var 0) se_int))
      (sss_cons (ss_if (st_cmp (op_ltD hr.units0) (se_var 3) (se_pow se_int se_int) (by first | exact nomark _ | rfl)) (sss_one (ss_ret (se_mod (se_callTy cr_int (by rfl) z_int (by decide +kernel) (sa_cons (se_var 3) sa_nil)) (se_var 1)))) sss_nil)
      (sss_one (ss_asg (se_var 3) (sg_subL (se_var 0) se_int)))))) sss_nil)
      (sss_cons (ss_if (st_cmp op_gtD (se_ix (hu_of hr) (se_var 0) se_int (fun _ _ => rfl)) se_int (by first | exact nomark _ | rfl)) (sss_cons (ss_set 4 sc__law_next.nd (se_mod (se_callTy cr_int (by rfl) z_int (by decide +kernel) (sa_cons (se_ix (hu_of hr) (se_var 0) se_int (fun _ _ => rfl)) sa_nil)) (se_var 1)))
      (sss_cons (ss_asg (se_fdiv (se_ix (hu_of hr) (se_var 0) se_int (fun _ _ => rfl)) (se_var 1)) (sg_subL (se_var 0) se_int))
      (sss_one (ss_ret (se_var 4))))) sss_nil)
      (sss_cons (ss_asg (se_mod (se_callTy cr_int (by rfl) z_int (by decide +kernel) (sa_cons (se_add (se_mul (se_ix (hu_of hr) (se_var 0) se_int (fun _ _ => rfl)) se_int) se_int) sa_nil)) se_int) (sg_subL (se_var 0) se_int))
      (sss_cons (ss_set 2 sc__law_next.nd (se_mod (se_callTy cr_int (by rfl) z_int (by decide +kernel) (sa_cons (se_add (se_mul (se_ix (hu_of hr) (se_var 0) se_int (fun _ _ => rfl)) se_int) (se_fdiv (se_ix (hu_of hr) (se_var 0) se_int (fun _ _ => rfl)) se_int)) sa_nil)) se_int))
      (sss_one (ss_ret (se_mod (se_callTy cr_int (by rfl) z_int (by decide +kernel) (sa_cons (se_var 2) sa_nil)) (se_var 1))))))))
theorem ok__law_gcd {f__law_gcd : Addr} {fd__law_gcd : FuncData} (D__law_gcd : DefOk K mg "_law_gcd" s__law_gcd ["a", "b"] f__law_gcd fd__law_gcd)
    (z_range : mg "range" = none)
    (z_abs : mg "abs" = none)
    (z_int : mg "int" = none) : FnOk P w K mg base CX0 1 f__law_gcd fd__law_gcd ["a", "b"] (spM K 2 F__law_gcd) := by
  exact fn_ok D__law_gcd.fn sc__law_gcd rfl fun cdv A outer s H E hr =>
      (sss_cons (ss_for PassesOwn.never rfl (si_range1 (by rfl) z_range (sa_cons se_int sa_nil)) (sg_name 2 sc__law_gcd.nd) (sss_cons (ss_if (st_cmp (op_eqDD hr.units) (se_var 1) se_int (by first | exact nomark _ | rfl)) (sss_one (ss_ret (se_callB cr_abs (by rfl) z_abs (by decide +kernel) (sa_cons (se_var 0) sa_nil)))) sss_nil)
      (sss_one (ss_par 0 1 rfl sc__law_gcd.nd (se_var 1) (se_mod (se_callTy cr_int (by rfl) z_int (by decide +kernel) (sa_cons (se_var 0) sa_nil)) (se_var 1))))))
      (sss_one (ss_ret se_int)))
theorem ok__law_low {f__law_low : Addr} {fd__law_low : FuncData} (D__law_low : DefOk K mg "_law_low" s__law_low ["n", "d"] f__law_low fd__law_low)
    {f__law_gcd : Addr} {fd__law_gcd : FuncData} (D__law_gcd : DefOk K mg "_law_gcd" s__law_gcd ["a", "b"] f__law_gcd fd__law_gcd) (G__law_gcd : FnOk P w K mg base CX0 1 f__law_gcd fd__law_gcd ["a", "b"] (spM K 2 F__law_gcd)) : FnOk P w K mg base CX0 2 f__law_low fd__law_low ["n", "d"] (spM K 2 F__law_low) := by
  exact fn_ok D__law_low.fn sc__law_low rfl fun cdv A outer s H E hr =>
      (sss_cons (ss_set 2 sc__law_low.nd (se_call (n := 2) G__law_gcd (hr.mono (by decide)) (by rfl) D__law_gcd.m D__law_gcd.fn.kp D__law_gcd.b passA (sa_cons (se_var 0) (sa_cons (se_var 1) sa_nil))))
      (sss_one (ss_ret (se_tup (sa_cons (se_fdiv (se_var 0) (se_var 2)) (sa_cons (se_fdiv (se_var 1) (se_var 2)) sa_nil))))))
theorem ok__law_number {f__law_number : Addr} {fd__law_number : FuncData} (D__law_number : DefOk K mg "_law_number" s__law_number ["pot"] f__law_number fd__law_number)
    {f__law_next : Addr} {fd__law_next : FuncData} (D__law_next : DefOk K mg "_law_next" s__law_next ["pot", "limit"] f__law_next fd__law_next) (G__law_next : FnOk P w K mg base CX0 1 f__law_next fd__law_next ["pot", "limit"] (spM K 2 F__law_next))
    {f__law_low : Addr} {fd__law_low : FuncData} (D__law_low : DefOk K mg "_law_low" s__law_low ["n", "d"] f__law_low fd__law_low) (G__law_low : FnOk P w K mg base CX0 2 f__law_low fd__law_low ["n", "d"] (spM K 2 F__law_low)) : FnOk P w K mg base CX0 3 f__law_number fd__law_number ["pot"] (spM K 1 F__law_number) := by
  exact fn_ok D__law_number.fn sc__law_number rfl fun cdv A outer s H E hr =>
      (sss_one (ss_ret (se_call (n := 2) G__law_low (hr.mono (by decide)) (by rfl) D__law_low.m D__law_low.fn.kp D__law_low.b passA (sa_cons (se_sub (se_call (n := 2) G__law_next (hr.mono (by decide)) (by rfl) D__law_next.m D__law_next.fn.kp D__law_next.b passA (sa_cons (se_var 0) (sa_cons se_int sa_nil))) se_int) (sa_cons (se_add se_int (se_call (n := 2) G__law_next (hr.mono (by decide)) (by rfl) D__law_next.m D__law_next.fn.kp D__law_next.b passA (sa_cons (se_var 0) (sa_cons se_int sa_nil)))) sa_nil)))))
theorem ok__law_cross {f__law_cross : Addr} {fd__law_cross : FuncData} (D__law_cross : DefOk K mg "_law_cross" s__law_cross ["p", "q", "r"] f__law_cross fd__law_cross)
    (z_int : mg "int" = none) : FnOk P w K mg base CX0 1 f__law_cross fd__law_cross ["p", "q", "r"] (spM K 3 F__law_cross) := by
  exact fn_ok D__law_cross.fn sc__law_cross rfl fun cdv A outer s H E hr =>
      (sss_cons (ss_set 3 sc__law_cross.nd (se_mul (se_mul (se_mul (se_sub (se_mul (se_ix (hu_of hr) (se_ix (hu_of hr) (se_var 1) se_int (fun _ _ => rfl)) se_int (fun _ _ => rfl)) (se_ix (hu_of hr) (se_ix (hu_of hr) (se_var 0) se_int (fun _ _ => rfl)) se_int (fun _ _ => rfl))) (se_mul (se_ix (hu_of hr) (se_ix (hu_of hr) (se_var 0) se_int (fun _ _ => rfl)) se_int (fun _ _ => rfl)) (se_ix (hu_of hr) (se_ix (hu_of hr) (se_var 1) se_int (fun _ _ => rfl)) se_int (fun _ _ => rfl)))) (se_sub (se_mul (se_ix (hu_of hr) (se_ix (hu_of hr) (se_var 2) se_int (fun _ _ => rfl)) se_int (fun _ _ => rfl)) (se_ix (hu_of hr) (se_ix (hu_of hr) (se_var 0) se_int (fun _ _ => rfl)) se_int (fun _ _ => rfl))) (se_mul (se_ix (hu_of hr) (se_ix (hu_of hr) (se_var 0) se_int (fun _ _ => rfl)) se_int (fun _ _ => rfl)) (se_ix (hu_of hr) (se_ix (hu_of hr) (se_var 2) se_int (fun _ _ => rfl)) se_int (fun _ _ => rfl))))) (se_ix (hu_of hr) (se_ix (hu_of hr) (se_var 1) se_int (fun _ _ => rfl)) se_int (fun _ _ => rfl))) (se_ix (hu_of hr) (se_ix (hu_of hr) (se_var 2) se_int (fun _ _ => rfl)) se_int (fun _ _ => rfl))))
      (sss_cons (ss_set 4 sc__law_cross.nd (se_mul (se_mul (se_mul (se_sub (se_mul (se_ix (hu_of hr) (se_ix (hu_of hr) (se_var 1) se_int (fun _ _ => rfl)) se_int (fun _ _ => rfl)) (se_ix (hu_of hr) (se_ix (hu_of hr) (se_var 0) se_int (fun _ _ => rfl)) se_int (fun _ _ => rfl))) (se_mul (se_ix (hu_of hr) (se_ix (hu_of hr) (se_var 0) se_int (fun _ _ => rfl)) se_int (fun _ _ => rfl)) (se_ix (hu_of hr) (se_ix (hu_of hr) (se_var 1) se_int (fun _ _ => rfl)) se_int (fun _ _ => rfl)))) (se_sub (se_mul (se_ix (hu_of hr) (se_ix (hu_of hr) (se_var 2) se_int (fun _ _ => rfl)) se_int (fun _ _ => rfl)) (se_ix (hu_of hr) (se_ix (hu_of hr) (se_var 0) se_int (fun _ _ => rfl)) se_int (fun _ _ => rfl))) (se_mul (se_ix (hu_of hr) (se_ix (hu_of hr) (se_var 0) se_int (fun _ _ => rfl)) se_int (fun _ _ => rfl)) (se_ix (hu_of hr) (se_ix (hu_of hr) (se_var 2) se_int (fun _ _ => rfl)) se_int (fun _ _ => rfl))))) (se_ix (hu_of hr) (se_ix (hu_of hr) (se_var 1) se_int (fun _ _ => rfl)) se_int (fun _ _ => rfl))) (se_ix (hu_of hr) (se_ix (hu_of hr) (se_var 2) se_int (fun _ _ => rfl)) se_int (fun _ _ => rfl))))
      (sss_one (ss_ret (se_sub (se_callTy cr_int (by rfl) z_int (by decide +kernel) (sa_cons (se_cmp op_gtD (se_var 3) (se_var 4) (by first | exact nomark _ | rfl)) sa_nil)) (se_callTy cr_int (by rfl) z_int (by decide +kernel) (sa_cons (se_cmp (op_ltD hr.units0) (se_var 3) (se_var 4) (by first | exact nomark _ | rfl)) sa_nil)))))))
theorem ok__step {f__step : Addr} {fd__step : FuncData} (D__step : DefOk K mg "_step" s__step ["a", "b"] f__step fd__step) : FnOk P w K mg base CX0 1 f__step fd__step ["a", "b"] (spM K 2 F__step) := by
  exact fn_ok D__step.fn sc__step rfl fun cdv A outer s H E hr =>
      (sss_one (ss_ret (se_tup (sa_cons (se_sub (se_mul (se_ix (hu_of hr) (se_var 1) se_int (fun _ _ => rfl)) (se_ix (hu_of hr) (se_var 0) se_int (fun _ _ => rfl))) (se_mul (se_ix (hu_of hr) (se_var 0) se_int (fun _ _ => rfl)) (se_ix (hu_of hr) (se_var 1) se_int (fun _ _ => rfl)))) (sa_cons (se_mul (se_ix (hu_of hr) (se_var 0) se_int (fun _ _ => rfl)) (se_ix (hu_of hr) (se_var 1) se_int (fun _ _ => rfl))) sa_nil)))))
theorem ok_sign {f_sign : Addr} {fd_sign : FuncData} (D_sign : DefOk K mg "sign" s_sign ["a"] f_sign fd_sign) : FnOk P w K mg base CX0 1 f_sign fd_sign ["a"] (spM K 1 F_sign) := by
  exact fn_ok D_sign.fn sc_sign rfl fun cdv A outer s H E hr =>
      (sss_cons (ss_if (st_cmp op_gtD (se_ix (hu_of hr) (se_var 0) se_int (fun _ _ => rfl)) se_int (by first | exact nomark _ | rfl)) (sss_one (ss_ret se_int)) sss_nil)
      (sss_cons (ss_if (st_cmp (op_ltD hr.units0) (se_ix (hu_of hr) (se_var 0) se_int (fun _ _ => rfl)) se_int (by first | exact nomark _ | rfl)) (sss_one (ss_ret (se_neg se_int))) sss_nil)
      (sss_one (ss_ret se_int))))
theorem ok_turn {f_turn : Addr} {fd_turn : FuncData} (D_turn : DefOk K mg "turn" s_turn ["p", "q", "r"] f_turn fd_turn)
    {f__step : Addr} {fd__step : FuncData} (D__step : DefOk K mg "_step" s__step ["a", "b"] f__step fd__step) (G__step : FnOk P w K mg base CX0 1 f__step fd__step ["a", "b"] (spM K 2 F__step))
    {f_sign : Addr} {fd_sign : FuncData} (D_sign : DefOk K mg "sign" s_sign ["a"] f_sign fd_sign) (G_sign : FnOk P w K mg base CX0 1 f_sign fd_sign ["a"] (spM K 1 F_sign)) : FnOk P w K mg base CX0 2 f_turn fd_turn ["p", "q", "r"] (spM K 3 F_turn) := by
  exact fn_ok D_turn.fn sc_turn rfl fun cdv A outer s H E hr =>
      (sss_cons (ss_set 3 sc_turn.nd (se_call (n := 2) G__step (hr.mono (by decide)) (by rfl) D__step.m D__step.fn.kp D__step.b passA (sa_cons (se_ix (hu_of hr) (se_var 0) se_int (fun _ _ => rfl)) (sa_cons (se_ix (hu_of hr) (se_var 1) se_int (fun _ _ => rfl)) sa_nil))))
      (sss_cons (ss_set 4 sc_turn.nd (se_call (n := 2) G__step (hr.mono (by decide)) (by rfl) D__step.m D__step.fn.kp D__step.b passA (sa_cons (se_ix (hu_of hr) (se_var 0) se_int (fun _ _ => rfl)) (sa_cons (se_ix (hu_of hr) (se_var 1) se_int (fun _ _ => rfl)) sa_nil))))
      (sss_cons (ss_set 5 sc_turn.nd (se_call (n := 2) G__step (hr.mono (by decide)) (by rfl) D__step.m D__step.fn.kp D__step.b passA (sa_cons (se_ix (hu_of hr) (se_var 0) se_int (fun _ _ => rfl)) (sa_cons (se_ix (hu_of hr) (se_var 2) se_int (fun _ _ => rfl)) sa_nil))))
      (sss_cons (ss_set 6 sc_turn.nd (se_call (n := 2) G__step (hr.mono (by decide)) (by rfl) D__step.m D__step.fn.kp D__step.b passA (sa_cons (se_ix (hu_of hr) (se_var 0) se_int (fun _ _ => rfl)) (sa_cons (se_ix (hu_of hr) (se_var 2) se_int (fun _ _ => rfl)) sa_nil))))
      (sss_cons (ss_set 7 sc_turn.nd (se_mul (se_mul (se_mul (se_ix (hu_of hr) (se_var 3) se_int (fun _ _ => rfl)) (se_ix (hu_of hr) (se_var 6) se_int (fun _ _ => rfl))) (se_ix (hu_of hr) (se_var 4) se_int (fun _ _ => rfl))) (se_ix (hu_of hr) (se_var 5) se_int (fun _ _ => rfl))))
      (sss_cons (ss_set 8 sc_turn.nd (se_mul (se_mul (se_mul (se_ix (hu_of hr) (se_var 4) se_int (fun _ _ => rfl)) (se_ix (hu_of hr) (se_var 5) se_int (fun _ _ => rfl))) (se_ix (hu_of hr) (se_var 3) se_int (fun _ _ => rfl))) (se_ix (hu_of hr) (se_var 6) se_int (fun _ _ => rfl))))
      (sss_one (ss_ret (se_call (n := 1) G_sign (hr.mono (by decide)) (by rfl) D_sign.m D_sign.fn.kp D_sign.b passA (sa_cons (se_tup (sa_cons (se_sub (se_var 7) (se_var 8)) (sa_cons se_int sa_nil))) sa_nil))))))))))
theorem ok__law_is_int {f__law_is_int : Addr} {fd__law_is_int : FuncData} (D__law_is_int : DefOk K mg "_law_is_int" s__law_is_int ["value"] f__law_is_int fd__law_is_int)
    (z_isinstance : mg "isinstance" = none)
    (z_int : mg "int" = none)
    (z_bool : mg "bool" = none) : FnOk P w K mg base CX0 1 f__law_is_int fd__law_is_int ["value"] (spM K 1 F__law_is_int) := by
  exact fn_ok D__law_is_int.fn sc__law_is_int rfl fun cdv A outer s H E hr =>
      (sss_one (ss_ret (se_and (se_isi (se_var 0) (by rfl) z_isinstance (by rfl) z_int (by decide +kernel)) (se_one (se_not (se_isi (se_var 0) (by rfl) z_isinstance (by rfl) z_bool (by decide +kernel)))))))
theorem okr__law_same {f__law_same : Addr} {fd__law_same : FuncData} (D__law_same : DefOk K mg "_law_same" s__law_same ["found", "value"] f__law_same fd__law_same)
    {f__law_is_int : Addr} {fd__law_is_int : FuncData} (D__law_is_int : DefOk K mg "_law_is_int" s__law_is_int ["value"] f__law_is_int fd__law_is_int) (G__law_is_int : FnOk P w K mg base CX0 1 f__law_is_int fd__law_is_int ["value"] (spM K 1 F__law_is_int))
    (z_isinstance : mg "isinstance" = none)
    (z_bool : mg "bool" = none)
    (z_int : mg "int" = none)
    (z_str : mg "str" = none)
    (z_list : mg "list" = none)
    (z_tuple : mg "tuple" = none)
    (z_len : mg "len" = none)
    (z_range : mg "range" = none)
    (z_all : mg "all" = none) : ∀ j : Nat, FnOk P w K mg base CX0 (2 + j) f__law_same fd__law_same ["found", "value"] (spM K 2 (FF__law_same j)) := by
  intro j
  induction j with
  | zero => exact fn_stuck
  | succ j ih =>
    have G__law_same := ih
    exact fn_ok D__law_same.fn sc__law_same rfl fun cdv A outer s H E hr =>
      (sss_cons (ss_if (st_isN (se_var 1)) (sss_one (ss_ret (se_isN (se_var 0)))) sss_nil)
      (sss_cons (ss_if (st_truth (se_isi (se_var 1) (by rfl) z_isinstance (by rfl) z_bool (by decide +kernel))) (sss_one (ss_ret (se_and (se_isi (se_var 0) (by rfl) z_isinstance (by rfl) z_bool (by decide +kernel)) (se_one (se_cmp (op_eqDD hr.units) (se_var 0) (se_var 1) (by first | exact nomark _ | rfl)))))) sss_nil)
      (sss_cons (ss_if (st_truth (se_isi (se_var 1) (by rfl) z_isinstance (by rfl) z_int (by decide +kernel))) (sss_one (ss_ret (se_and (se_call (n := 1) G__law_is_int (hr.mono (Nat.le_trans (by decide) (Nat.le_add_right 2 j))) (by rfl) D__law_is_int.m D__law_is_int.fn.kp D__law_is_int.b passA (sa_cons (se_var 0) sa_nil)) (se_one (se_cmp (op_eqDD hr.units) (se_var 0) (se_var 1) (by first | exact nomark _ | rfl)))))) sss_nil)
      (sss_cons (ss_if (st_truth (se_isi (se_var 1) (by rfl) z_isinstance (by rfl) z_str (by decide +kernel))) (sss_one (ss_ret (se_and (se_isi (se_var 0) (by rfl) z_isinstance (by rfl) z_str (by decide +kernel)) (se_one (se_cmp (op_eqDD hr.units) (se_var 0) (se_var 1) (by first | exact nomark _ | rfl)))))) sss_nil)
      (sss_cons (ss_if (st_w (sw_or (st_cmp (op_neDD hr.units) (se_isi (se_var 1) (by rfl) z_isinstance (by rfl) z_list (by decide +kernel)) (se_isi (se_var 0) (by rfl) z_isinstance (by rfl) z_list (by decide +kernel)) (by first | exact nomark _ | rfl)) (sw_or1 (st_cmp (op_neDD hr.units) (se_isi (se_var 1) (by rfl) z_isinstance (by rfl) z_tuple (by decide +kernel)) (se_isi (se_var 0) (by rfl) z_isinstance (by rfl) z_tuple (by decide +kernel)) (by first | exact nomark _ | rfl))))) (sss_one (ss_ret se_bl)) sss_nil)
      (sss_one (ss_ret (se_and (se_cmp (op_eqDD hr.units) (se_callB cr_len (by rfl) z_len (by decide +kernel) (sa_cons (se_var 0) sa_nil)) (se_callB cr_len (by rfl) z_len (by decide +kernel) (sa_cons (se_var 1) sa_nil)) (by first | exact nomark _ | rfl)) (se_one (se_callB (cr_allD rfl) (by rfl) z_all (by decide +kernel) (sa_cons (se_comp (own := [("k", 2)]) rfl sc__law_same.nd (si_range1 (by rfl) z_range (sa_cons (se_callB cr_len (by rfl) z_len (by decide +kernel) (sa_cons (se_var 1) sa_nil)) sa_nil)) (blkOk_by (own := [("k", 2)]) (N := N__law_same) (sc := defScope s__law_same) (by decide +kernel)) (gt_name (by decide)) (fun _ _ _ _ _ => pg_name (i := 2) sc__law_same.nd rfl (.inl rfl)) (fun _ _ _ _ _ => sts_nil) (fun _ _ _ _ _ => (se_call (n := 2) G__law_same hr (by rfl) D__law_same.m D__law_same.fn.kp D__law_same.b passA (sa_cons (se_ix (hu_of hr) (se_var 0) (se_var 2) (fun _ _ => rfl)) (sa_cons (se_ix (hu_of hr) (se_var 1) (se_var 2) (fun _ _ => rfl)) sa_nil))))) sa_nil)))))))))))
theorem ok__law_same {f__law_same : Addr} {fd__law_same : FuncData} (D__law_same : DefOk K mg "_law_same" s__law_same ["found", "value"] f__law_same fd__law_same)
    {f__law_is_int : Addr} {fd__law_is_int : FuncData} (D__law_is_int : DefOk K mg "_law_is_int" s__law_is_int ["value"] f__law_is_int fd__law_is_int) (G__law_is_int : FnOk P w K mg base CX0 1 f__law_is_int fd__law_is_int ["value"] (spM K 1 F__law_is_int))
    (z_isinstance : mg "isinstance" = none)
    (z_bool : mg "bool" = none)
    (z_int : mg "int" = none)
    (z_str : mg "str" = none)
    (z_list : mg "list" = none)
    (z_tuple : mg "tuple" = none)
    (z_len : mg "len" = none)
    (z_range : mg "range" = none)
    (z_all : mg "all" = none) : FnOk P w K mg base CX0 5 f__law_same fd__law_same ["found", "value"] (spM K 2 (FF__law_same 3)) := by
  exact okr__law_same D__law_same D__law_is_int G__law_is_int z_isinstance z_bool z_int z_str z_list z_tuple z_len z_range z_all 3
theorem ok__law_between {f__law_between : Addr} {fd__law_between : FuncData} (D__law_between : DefOk K mg "_law_between" s__law_between ["a", "b", "c"] f__law_between fd__law_between) : FnOk P w K mg base CX0 1 f__law_between fd__law_between ["a", "b", "c"] (spM K 3 F__law_between) := by
  exact fn_ok D__law_between.fn sc__law_between rfl fun cdv A outer s H E hr =>
      (sss_cons (ss_set 3 sc__law_between.nd (se_and (se_cmp op_leD (se_mul (se_ix (hu_of hr) (se_var 0) se_int (fun _ _ => rfl)) (se_ix (hu_of hr) (se_var 1) se_int (fun _ _ => rfl))) (se_mul (se_ix (hu_of hr) (se_var 1) se_int (fun _ _ => rfl)) (se_ix (hu_of hr) (se_var 0) se_int (fun _ _ => rfl))) (by first | exact nomark _ | rfl)) (se_one (se_cmp op_leD (se_mul (se_ix (hu_of hr) (se_var 1) se_int (fun _ _ => rfl)) (se_ix (hu_of hr) (se_var 2) se_int (fun _ _ => rfl))) (se_mul (se_ix (hu_of hr) (se_var 2) se_int (fun _ _ => rfl)) (se_ix (hu_of hr) (se_var 1) se_int (fun _ _ => rfl))) (by first | exact nomark _ | rfl)))))
      (sss_cons (ss_set 4 sc__law_between.nd (se_and (se_cmp op_geD (se_mul (se_ix (hu_of hr) (se_var 0) se_int (fun _ _ => rfl)) (se_ix (hu_of hr) (se_var 1) se_int (fun _ _ => rfl))) (se_mul (se_ix (hu_of hr) (se_var 1) se_int (fun _ _ => rfl)) (se_ix (hu_of hr) (se_var 0) se_int (fun _ _ => rfl))) (by first | exact nomark _ | rfl)) (se_one (se_cmp op_geD (se_mul (se_ix (hu_of hr) (se_var 1) se_int (fun _ _ => rfl)) (se_ix (hu_of hr) (se_var 2) se_int (fun _ _ => rfl))) (se_mul (se_ix (hu_of hr) (se_var 2) se_int (fun _ _ => rfl)) (se_ix (hu_of hr) (se_var 1) se_int (fun _ _ => rfl))) (by first | exact nomark _ | rfl)))))
      (sss_one (ss_ret (se_or (se_var 3) (se_one (se_var 4)))))))
theorem ok_is_less {f_is_less : Addr} {fd_is_less : FuncData} (D_is_less : DefOk K mg "is_less" s_is_less ["a", "b"] f_is_less fd_is_less) : FnOk P w K mg base CX0 1 f_is_less fd_is_less ["a", "b"] (spM K 2 F_is_less) := by
  exact fn_ok D_is_less.fn sc_is_less rfl fun cdv A outer s H E hr =>
      (sss_one (ss_ret (se_cmp (op_ltD hr.units0) (se_mul (se_ix (hu_of hr) (se_var 0) se_int (fun _ _ => rfl)) (se_ix (hu_of hr) (se_var 1) se_int (fun _ _ => rfl))) (se_mul (se_ix (hu_of hr) (se_var 1) se_int (fun _ _ => rfl)) (se_ix (hu_of hr) (se_var 0) se_int (fun _ _ => rfl))) (by first | exact nomark _ | rfl))))
theorem ok__is_between {f__is_between : Addr} {fd__is_between : FuncData} (D__is_between : DefOk K mg "_is_between" s__is_between ["n", "a", "b"] f__is_between fd__is_between)
    {f_is_less : Addr} {fd_is_less : FuncData} (D_is_less : DefOk K mg "is_less" s_is_less ["a", "b"] f_is_less fd_is_less) (G_is_less : FnOk P w K mg base CX0 1 f_is_less fd_is_less ["a", "b"] (spM K 2 F_is_less)) : FnOk P w K mg base CX0 2 f__is_between fd__is_between ["n", "a", "b"] (spM K 3 F__is_between) := by
  exact fn_ok D__is_between.fn sc__is_between rfl fun cdv A outer s H E hr =>
      (sss_cons (ss_if (st_truth (se_call (n := 2) G_is_less (hr.mono (by decide)) (by rfl) D_is_less.m D_is_less.fn.kp D_is_less.b passA (sa_cons (se_var 0) (sa_cons (se_var 1) sa_nil)))) (sss_one (ss_ret (se_not (se_call (n := 2) G_is_less (hr.mono (by decide)) (by rfl) D_is_less.m D_is_less.fn.kp D_is_less.b passA (sa_cons (se_var 0) (sa_cons (se_var 2) sa_nil)))))) sss_nil)
      (sss_one (ss_ret (se_or (se_not (se_call (n := 2) G_is_less (hr.mono (by decide)) (by rfl) D_is_less.m D_is_less.fn.kp D_is_less.b passA (sa_cons (se_var 1) (sa_cons (se_var 0) sa_nil)))) (se_one (se_not (se_call (n := 2) G_is_less (hr.mono (by decide)) (by rfl) D_is_less.m D_is_less.fn.kp D_is_less.b passA (sa_cons (se_var 2) (sa_cons (se_var 0) sa_nil)))))))))
theorem ok_on_segment {f_on_segment : Addr} {fd_on_segment : FuncData} (D_on_segment : DefOk K mg "on_segment" s_on_segment ["p", "a", "b"] f_on_segment fd_on_segment)
    {f_turn : Addr} {fd_turn : FuncData} (D_turn : DefOk K mg "turn" s_turn ["p", "q", "r"] f_turn fd_turn) (G_turn : FnOk P w K mg base CX0 2 f_turn fd_turn ["p", "q", "r"] (spM K 3 F_turn))
    {f__is_between : Addr} {fd__is_between : FuncData} (D__is_between : DefOk K mg "_is_between" s__is_between ["n", "a", "b"] f__is_between fd__is_between) (G__is_between : FnOk P w K mg base CX0 2 f__is_between fd__is_between ["n", "a", "b"] (spM K 3 F__is_between)) : FnOk P w K mg base CX0 3 f_on_segment fd_on_segment ["p", "a", "b"] (spM K 3 F_on_segment) := by
  exact fn_ok D_on_segment.fn sc_on_segment rfl fun cdv A outer s H E hr =>
      (sss_one (ss_ret (se_and (se_cmp (op_eqDD hr.units) (se_call (n := 3) G_turn (hr.mono (by decide)) (by rfl) D_turn.m D_turn.fn.kp D_turn.b passA (sa_cons (se_var 1) (sa_cons (se_var 2) (sa_cons (se_var 0) sa_nil)))) se_int (by first | exact nomark _ | rfl)) (se_and (se_call (n := 3) G__is_between (hr.mono (by decide)) (by rfl) D__is_between.m D__is_between.fn.kp D__is_between.b passA (sa_cons (se_ix (hu_of hr) (se_var 0) se_int (fun _ _ => rfl)) (sa_cons (se_ix (hu_of hr) (se_var 1) se_int (fun _ _ => rfl)) (sa_cons (se_ix (hu_of hr) (se_var 2) se_int (fun _ _ => rfl)) sa_nil)))) (se_one (se_call (n := 3) G__is_between (hr.mono (by decide)) (by rfl) D__is_between.m D__is_between.fn.kp D__is_between.b passA (sa_cons (se_ix (hu_of hr) (se_var 0) se_int (fun _ _ => rfl)) (sa_cons (se_ix (hu_of hr) (se_var 1) se_int (fun _ _ => rfl)) (sa_cons (se_ix (hu_of hr) (se_var 2) se_int (fun _ _ => rfl)) sa_nil)))))))))
theorem ok_is_whole {f_is_whole : Addr} {fd_is_whole : FuncData} (D_is_whole : DefOk K mg "is_whole" s_is_whole ["thing", "least", "most"] f_is_whole fd_is_whole)
    (z_isinstance : mg "isinstance" = none)
    (z_int : mg "int" = none)
    (z_bool : mg "bool" = none) : FnOk P w K mg base CX0 1 f_is_whole fd_is_whole ["thing", "least", "most"] (spM K 3 F_is_whole) := by
  exact fn_ok D_is_whole.fn sc_is_whole rfl fun cdv A outer s H E hr =>
      (sss_cons (ss_if (st_w (sw_or (st_not (st_truth (se_isi (se_var 0) (by rfl) z_isinstance (by rfl) z_int (by decide +kernel)))) (sw_or1 (st_truth (se_isi (se_var 0) (by rfl) z_isinstance (by rfl) z_bool (by decide +kernel)))))) (sss_one (ss_ret se_bl)) sss_nil)
      (sss_one (ss_ret (se_chain op_leD op_leD (se_var 1) (se_var 0) (se_var 2)))))
theorem ok_is_corner_from {f_is_corner_from : Addr} {fd_is_corner_from : FuncData} (D_is_corner_from : DefOk K mg "is_corner_from" s_is_corner_from ["thing", "least", "most"] f_is_corner_from fd_is_corner_from)
    {f_is_whole : Addr} {fd_is_whole : FuncData} (D_is_whole : DefOk K mg "is_whole" s_is_whole ["thing", "least", "most"] f_is_whole fd_is_whole) (G_is_whole : FnOk P w K mg base CX0 1 f_is_whole fd_is_whole ["thing", "least", "most"] (spM K 3 F_is_whole))
    (z_isinstance : mg "isinstance" = none)
    (z_tuple : mg "tuple" = none)
    (z_len : mg "len" = none) : FnOk P w K mg base CX0 2 f_is_corner_from fd_is_corner_from ["thing", "least", "most"] (spM K 3 F_is_corner_from) := by
  exact fn_ok D_is_corner_from.fn sc_is_corner_from rfl fun cdv A outer s H E hr =>
      (sss_cons (ss_if (st_w (sw_or (st_not (st_truth (se_isi (se_var 0) (by rfl) z_isinstance (by rfl) z_tuple (by decide +kernel)))) (sw_or1 (st_cmp (op_neDD hr.units) (se_callB cr_len (by rfl) z_len (by decide +kernel) (sa_cons (se_var 0) sa_nil)) se_int (by first | exact nomark _ | rfl))))) (sss_one (ss_ret se_bl)) sss_nil)
      (sss_one (ss_ret (se_and (se_call (n := 3) G_is_whole (hr.mono (by decide)) (by rfl) D_is_whole.m D_is_whole.fn.kp D_is_whole.b passA (sa_cons (se_ix (hu_of hr) (se_var 0) se_int (fun _ _ => rfl)) (sa_cons (se_var 1) (sa_cons (se_var 2) sa_nil)))) (se_one (se_call (n := 3) G_is_whole (hr.mono (by decide)) (by rfl) D_is_whole.m D_is_whole.fn.kp D_is_whole.b passA (sa_cons (se_ix (hu_of hr) (se_var 0) se_int (fun _ _ => rfl)) (sa_cons (se_var 1) (sa_cons (se_var 2) sa_nil)))))))))
theorem ok_is_corner {f_is_corner : Addr} {fd_is_corner : FuncData} (D_is_corner : DefOk K mg "is_corner" s_is_corner ["thing"] f_is_corner fd_is_corner)
    {f_is_corner_from : Addr} {fd_is_corner_from : FuncData} (D_is_corner_from : DefOk K mg "is_corner_from" s_is_corner_from ["thing", "least", "most"] f_is_corner_from fd_is_corner_from) (G_is_corner_from : FnOk P w K mg base CX0 2 f_is_corner_from fd_is_corner_from ["thing", "least", "most"] (spM K 3 F_is_corner_from))
    (k_FARTHEST : ∃ t, mg "FARTHEST" = some (.int 10000 t)) : FnOk P w K mg base CX0 3 f_is_corner fd_is_corner ["thing"] (spM K 1 F_is_corner) := by
  obtain ⟨_, c_FARTHEST⟩ := k_FARTHEST
  exact fn_ok D_is_corner.fn sc_is_corner rfl fun cdv A outer s H E hr =>
      (sss_one (ss_ret (se_call (n := 3) G_is_corner_from (hr.mono (by decide)) (by rfl) D_is_corner_from.m D_is_corner_from.fn.kp D_is_corner_from.b passA (sa_cons (se_var 0) (sa_cons (se_neg (se_glob (v := .int 10000) (by rfl) c_FARTHEST ⟨_, rfl⟩ (fun _ _ => .int _))) (sa_cons (se_glob (v := .int 10000) (by rfl) c_FARTHEST ⟨_, rfl⟩ (fun _ _ => .int _)) sa_nil))))))
theorem ok_point {f_point : Addr} {fd_point : FuncData} (D_point : DefOk K mg "point" s_point ["corner"] f_point fd_point) : FnOk P w K mg base CX0 1 f_point fd_point ["corner"] (spM K 1 F_point) := by
  exact fn_ok D_point.fn sc_point rfl fun cdv A outer s H E hr =>
      (sss_cons (ss_asg (se_var 0) (sg_tup rfl (sgs_cons (sg_name 1 sc_point.nd) (sgs_cons (sg_name 2 sc_point.nd) sgs_nil))))
      (sss_one (ss_ret (se_tup (sa_cons (se_tup (sa_cons (se_var 1) (sa_cons se_int sa_nil))) (sa_cons (se_tup (sa_cons (se_var 2) (sa_cons se_int sa_nil))) sa_nil))))))
theorem ok_is_name {f_is_name : Addr} {fd_is_name : FuncData} (D_is_name : DefOk K mg "is_name" s_is_name ["thing"] f_is_name fd_is_name)
    (z_isinstance : mg "isinstance" = none)
    (z_str : mg "str" = none)
    (z_len : mg "len" = none)
    (z_all : mg "all" = none)
    (k_LONGEST_NAME : ∃ t, mg "LONGEST_NAME" = some (.int 12 t)) : FnOk P w K mg base CX0 1 f_is_name fd_is_name ["thing"] (spM K 1 F_is_name) := by
  obtain ⟨_, c_LONGEST_NAME⟩ := k_LONGEST_NAME
  exact fn_ok D_is_name.fn sc_is_name rfl fun cdv A outer s H E hr =>
      (sss_cons (ss_if (st_w (sw_or (st_not (st_truth (se_isi (se_var 0) (by rfl) z_isinstance (by rfl) z_str (by decide +kernel)))) (sw_or1 (st_not (st_chain op_leD op_leD se_int (se_callB cr_len (by rfl) z_len (by decide +kernel) (sa_cons (se_var 0) sa_nil)) (se_glob (v := .int 12) (by rfl) c_LONGEST_NAME ⟨_, rfl⟩ (fun _ _ => .int _))))))) (sss_one (ss_ret se_bl)) sss_nil)
      (sss_one (ss_ret (se_callB (cr_allD rfl) (by rfl) z_all (by decide +kernel) (sa_cons (se_comp (own := [("letter", 1)]) rfl sc_is_name.nd (si_seq (se_var 0)) (blkOk_by (own := [("letter", 1)]) (N := N_is_name) (sc := defScope s_is_name) (by decide +kernel)) (gt_name (by decide)) (fun _ _ _ _ _ => pg_name (i := 1) sc_is_name.nd rfl (.inl rfl)) (fun _ _ _ _ _ => sts_nil) (fun _ _ _ _ _ => (se_chain op_leD op_leD se_str (se_var 1) se_str))) sa_nil)))))
theorem ok_law {f_law : Addr} {fd_law : FuncData} (D_law : DefOk K mg "law" s_law ["script"] f_law fd_law)
    {f__law_pot : Addr} {fd__law_pot : FuncData} (D__law_pot : DefOk K mg "_law_pot" s__law_pot ["script"] f__law_pot fd__law_pot) (G__law_pot : FnOk P w K mg base CX0 1 f__law_pot fd__law_pot ["script"] (spM K 1 F__law_pot))
    {f__law_number : Addr} {fd__law_number : FuncData} (D__law_number : DefOk K mg "_law_number" s__law_number ["pot"] f__law_number fd__law_number) (G__law_number : FnOk P w K mg base CX0 3 f__law_number fd__law_number ["pot"] (spM K 1 F__law_number))
    {f__law_next : Addr} {fd__law_next : FuncData} (D__law_next : DefOk K mg "_law_next" s__law_next ["pot", "limit"] f__law_next fd__law_next) (G__law_next : FnOk P w K mg base CX0 1 f__law_next fd__law_next ["pot", "limit"] (spM K 2 F__law_next))
    {f__law_low : Addr} {fd__law_low : FuncData} (D__law_low : DefOk K mg "_law_low" s__law_low ["n", "d"] f__law_low fd__law_low) (G__law_low : FnOk P w K mg base CX0 2 f__law_low fd__law_low ["n", "d"] (spM K 2 F__law_low))
    {f__law_cross : Addr} {fd__law_cross : FuncData} (D__law_cross : DefOk K mg "_law_cross" s__law_cross ["p", "q", "r"] f__law_cross fd__law_cross) (G__law_cross : FnOk P w K mg base CX0 1 f__law_cross fd__law_cross ["p", "q", "r"] (spM K 3 F__law_cross))
    {f_turn : Addr} {fd_turn : FuncData} (D_turn : DefOk K mg "turn" s_turn ["p", "q", "r"] f_turn fd_turn) (G_turn : FnOk P w K mg base CX0 2 f_turn fd_turn ["p", "q", "r"] (spM K 3 F_turn))
    {f__law_same : Addr} {fd__law_same : FuncData} (D__law_same : DefOk K mg "_law_same" s__law_same ["found", "value"] f__law_same fd__law_same) (G__law_same : FnOk P w K mg base CX0 5 f__law_same fd__law_same ["found", "value"] (spM K 2 (FF__law_same 3)))
    {f__law_between : Addr} {fd__law_between : FuncData} (D__law_between : DefOk K mg "_law_between" s__law_between ["a", "b", "c"] f__law_between fd__law_between) (G__law_between : FnOk P w K mg base CX0 1 f__law_between fd__law_between ["a", "b", "c"] (spM K 3 F__law_between))
    {f_on_segment : Addr} {fd_on_segment : FuncData} (D_on_segment : DefOk K mg "on_segment" s_on_segment ["p", "a", "b"] f_on_segment fd_on_segment) (G_on_segment : FnOk P w K mg base CX0 3 f_on_segment fd_on_segment ["p", "a", "b"] (spM K 3 F_on_segment))
    {f_is_corner : Addr} {fd_is_corner : FuncData} (D_is_corner : DefOk K mg "is_corner" s_is_corner ["thing"] f_is_corner fd_is_corner) (G_is_corner : FnOk P w K mg base CX0 3 f_is_corner fd_is_corner ["thing"] (spM K 1 F_is_corner))
    {f_point : Addr} {fd_point : FuncData} (D_point : DefOk K mg "point" s_point ["corner"] f_point fd_point) (G_point : FnOk P w K mg base CX0 1 f_point fd_point ["corner"] (spM K 1 F_point))
    {f_is_name : Addr} {fd_is_name : FuncData} (D_is_name : DefOk K mg "is_name" s_is_name ["thing"] f_is_name fd_is_name) (G_is_name : FnOk P w K mg base CX0 1 f_is_name fd_is_name ["thing"] (spM K 1 F_is_name))
    (z_range : mg "range" = none)
    (z_int : mg "int" = none)
    (z_tuple : mg "tuple" = none)
    (z_all : mg "all" = none)
    (z_any : mg "any" = none) : FnOk P w K mg base CX0 6 f_law fd_law ["script"] (spM K 1 F_law) := by
  exact fn_ok D_law.fn sc_law rfl fun cdv A outer s H E hr =>
      (sss_cons (ss_set 1 sc_law.nd (se_call (n := 1) G__law_pot (hr.mono (by decide)) (by rfl) D__law_pot.m D__law_pot.fn.kp D__law_pot.b passA (sa_cons (se_var 0) sa_nil)))
      (sss_cons (ss_for PassesOwn.never rfl (si_range1 (by rfl) z_range (sa_cons se_int sa_nil)) (sg_name 2 sc_law.nd) (sss_cons (ss_set 5 sc_law.nd (se_tup (sa_cons (se_call (n := 1) G__law_number (hr.mono (by decide)) (by rfl) D__law_number.m D__law_number.fn.kp D__law_number.b passA (sa_cons (se_var 1) sa_nil)) (sa_cons (se_call (n := 1) G__law_number (hr.mono (by decide)) (by rfl) D__law_number.m D__law_number.fn.kp D__law_number.b passA (sa_cons (se_var 1) sa_nil)) sa_nil))))
      (sss_cons (ss_set 6 sc_law.nd (se_ix (hu_of hr) (se_lst (sa_cons (se_var 5) (sa_cons (se_tup (sa_cons (se_call (n := 1) G__law_number (hr.mono (by decide)) (by rfl) D__law_number.m D__law_number.fn.kp D__law_number.b passA (sa_cons (se_var 1) sa_nil)) (sa_cons (se_call (n := 1) G__law_number (hr.mono (by decide)) (by rfl) D__law_number.m D__law_number.fn.kp D__law_number.b passA (sa_cons (se_var 1) sa_nil)) sa_nil))) sa_nil))) (se_callTy cr_int (by rfl) z_int (by decide +kernel) (sa_cons (se_cmp op_gtD (se_call (n := 2) G__law_next (hr.mono (by decide)) (by rfl) D__law_next.m D__law_next.fn.kp D__law_next.b passA (sa_cons (se_var 1) (sa_cons se_int sa_nil))) se_int (by first | exact nomark _ | rfl)) sa_nil)) (fun _ _ => rfl)))
      (sss_cons (ss_set 7 sc_law.nd (se_tup (sa_cons (se_call (n := 1) G__law_number (hr.mono (by decide)) (by rfl) D__law_number.m D__law_number.fn.kp D__law_number.b passA (sa_cons (se_var 1) sa_nil)) (sa_cons (se_call (n := 1) G__law_number (hr.mono (by decide)) (by rfl) D__law_number.m D__law_number.fn.kp D__law_number.b passA (sa_cons (se_var 1) sa_nil)) sa_nil))))
      (sss_cons (ss_set 8 sc_law.nd (se_sub (se_call (n := 2) G__law_next (hr.mono (by decide)) (by rfl) D__law_next.m D__law_next.fn.kp D__law_next.b passA (sa_cons (se_var 1) (sa_cons se_int sa_nil))) se_int))
      (sss_cons (ss_if (st_cmp (op_eqDD hr.units) (se_call (n := 2) G__law_next (hr.mono (by decide)) (by rfl) D__law_next.m D__law_next.fn.kp D__law_next.b passA (sa_cons (se_var 1) (sa_cons se_int sa_nil))) se_int (by first | exact nomark _ | rfl)) (sss_one (ss_set 7 sc_law.nd (se_callTy cr_tuple (by rfl) z_tuple (by decide +kernel) (sa_cons (se_comp (own := [("j", 11)]) rfl sc_law.nd (si_range1 (by rfl) z_range (sa_cons se_int sa_nil)) (blkOk_by (own := [("j", 11)]) (N := N_law) (sc := defScope s_law) (by decide +kernel)) (gt_name (by decide)) (fun _ _ _ _ _ => pg_name (i := 11) sc_law.nd rfl (.inl rfl)) (fun _ _ _ _ _ => sts_nil) (fun _ _ _ _ _ => (se_call (n := 2) G__law_low (hr.mono (by decide)) (by rfl) D__law_low.m D__law_low.fn.kp D__law_low.b passA (sa_cons (se_add (se_mul (se_mul (se_ix (hu_of hr) (se_ix (hu_of hr) (se_var 5) (se_var 11) (fun _ _ => rfl)) se_int (fun _ _ => rfl)) (se_ix (hu_of hr) (se_ix (hu_of hr) (se_var 6) (se_var 11) (fun _ _ => rfl)) se_int (fun _ _ => rfl))) (se_sub se_int (se_var 8))) (se_mul (se_mul (se_ix (hu_of hr) (se_ix (hu_of hr) (se_var 6) (se_var 11) (fun _ _ => rfl)) se_int (fun _ _ => rfl)) (se_ix (hu_of hr) (se_ix (hu_of hr) (se_var 5) (se_var 11) (fun _ _ => rfl)) se_int (fun _ _ => rfl))) (se_var 8))) (sa_cons (se_mul (se_mul se_int (se_ix (hu_of hr) (se_ix (hu_of hr) (se_var 5) (se_var 11) (fun _ _ => rfl)) se_int (fun _ _ => rfl))) (se_ix (hu_of hr) (se_ix (hu_of hr) (se_var 6) (se_var 11) (fun _ _ => rfl)) se_int (fun _ _ => rfl))) sa_nil))))) sa_nil)))) sss_nil)
      (sss_cons (ss_if (st_not (st_truth (se_call (n := 2) G__law_same (hr.mono (by decide)) (by rfl) D__law_same.m D__law_same.fn.kp D__law_same.b passA (sa_cons (se_call (n := 3) G_turn (hr.mono (by decide)) (by rfl) D_turn.m D_turn.fn.kp D_turn.b passA (sa_cons (se_var 5) (sa_cons (se_var 6) (sa_cons (se_var 7) sa_nil)))) (sa_cons (se_call (n := 3) G__law_cross (hr.mono (by decide)) (by rfl) D__law_cross.m D__law_cross.fn.kp D__law_cross.b passA (sa_cons (se_var 5) (sa_cons (se_var 6) (sa_cons (se_var 7) sa_nil)))) sa_nil))))) (sss_one (ss_ret se_bl)) sss_nil)
      (sss_cons (ss_set 9 sc_law.nd (se_and (se_cmp (op_eqDD hr.units) (se_call (n := 3) G__law_cross (hr.mono (by decide)) (by rfl) D__law_cross.m D__law_cross.fn.kp D__law_cross.b passA (sa_cons (se_var 5) (sa_cons (se_var 6) (sa_cons (se_var 7) sa_nil)))) se_int (by first | exact nomark _ | rfl)) (se_one (se_callB (cr_allD rfl) (by rfl) z_all (by decide +kernel) (sa_cons (se_comp (own := [("j", 11)]) rfl sc_law.nd (si_range1 (by rfl) z_range (sa_cons se_int sa_nil)) (blkOk_by (own := [("j", 11)]) (N := N_law) (sc := defScope s_law) (by decide +kernel)) (gt_name (by decide)) (fun _ _ _ _ _ => pg_name (i := 11) sc_law.nd rfl (.inl rfl)) (fun _ _ _ _ _ => sts_nil) (fun _ _ _ _ _ => (se_call (n := 3) G__law_between (hr.mono (by decide)) (by rfl) D__law_between.m D__law_between.fn.kp D__law_between.b passA (sa_cons (se_ix (hu_of hr) (se_var 5) (se_var 11) (fun _ _ => rfl)) (sa_cons (se_ix (hu_of hr) (se_var 7) (se_var 11) (fun _ _ => rfl)) (sa_cons (se_ix (hu_of hr) (se_var 6) (se_var 11) (fun _ _ => rfl)) sa_nil)))))) sa_nil)))))
      (sss_one (ss_if (st_not (st_truth (se_call (n := 2) G__law_same (hr.mono (by decide)) (by rfl) D__law_same.m D__law_same.fn.kp D__law_same.b passA (sa_cons (se_call (n := 3) G_on_segment (hr.mono (by decide)) (by rfl) D_on_segment.m D_on_segment.fn.kp D_on_segment.b passA (sa_cons (se_var 7) (sa_cons (se_var 5) (sa_cons (se_var 6) sa_nil)))) (sa_cons (se_var 9) sa_nil))))) (sss_one (ss_ret se_bl)) sss_nil))))))))))
      (sss_cons (ss_set 3 sc_law.nd (se_sub (se_call (n := 2) G__law_next (hr.mono (by decide)) (by rfl) D__law_next.m D__law_next.fn.kp D__law_next.b passA (sa_cons (se_var 1) (sa_cons se_int sa_nil))) se_int))
      (sss_cons (ss_if (st_w (sw_or (st_cmp op_notbD (se_call (n := 1) G_is_corner (hr.mono (by decide)) (by rfl) D_is_corner.m D_is_corner.fn.kp D_is_corner.b passA (sa_cons (se_tup (sa_cons (se_var 3) (sa_cons (se_neg (se_var 3)) sa_nil))) sa_nil)) se_bl (by first | exact nomark _ | rfl)) (sw_or1 (st_cmp (op_neDD hr.units) (se_call (n := 1) G_point (hr.mono (by decide)) (by rfl) D_point.m D_point.fn.kp D_point.b passA (sa_cons (se_tup (sa_cons (se_var 3) (sa_cons se_int sa_nil))) sa_nil)) (se_tup (sa_cons (se_tup (sa_cons (se_var 3) (sa_cons se_int sa_nil))) (sa_cons (se_tup (sa_cons se_int (sa_cons se_int sa_nil))) sa_nil))) (by first | exact nomark _ | rfl))))) (sss_one (ss_ret se_bl)) sss_nil)
      (sss_cons (ss_set 4 sc_law.nd (se_lst (sa_cons (se_tup (sa_cons se_int (sa_cons se_int sa_nil))) (sa_cons (se_tup (sa_cons se_int (sa_cons (se_neg se_int) sa_nil))) (sa_cons (se_tup (sa_cons se_int sa_nil)) (sa_cons (se_tup (sa_cons se_int (sa_cons se_int (sa_cons se_int sa_nil)))) (sa_cons (se_lst (sa_cons se_int (sa_cons se_int sa_nil))) (sa_cons (se_tup (sa_cons se_bl (sa_cons se_int sa_nil))) (sa_cons (se_tup (sa_cons se_int (sa_cons se_str sa_nil))) (sa_cons se_non (sa_cons se_int sa_nil)))))))))))
      (sss_cons (ss_if (st_w (sw_or (st_truth (se_callB (cr_anyD rfl) (by rfl) z_any (by decide +kernel) (sa_cons (se_comp (own := [("thing", 10)]) rfl sc_law.nd (si_seq (se_var 4)) (blkOk_by (own := [("thing", 10)]) (N := N_law) (sc := defScope s_law) (by decide +kernel)) (gt_name (by decide)) (fun _ _ _ _ _ => pg_name (i := 10) sc_law.nd rfl (.inl rfl)) (fun _ _ _ _ _ => sts_nil) (fun _ _ _ _ _ => (se_call (n := 1) G_is_corner (hr.mono (by decide)) (by rfl) D_is_corner.m D_is_corner.fn.kp D_is_corner.b passA (sa_cons (se_var 10) sa_nil)))) sa_nil))) (sw_or1 (st_not (st_truth (se_call (n := 1) G_is_name (hr.mono (by decide)) (by rfl) D_is_name.m D_is_name.fn.kp D_is_name.b passA (sa_cons se_str sa_nil))))))) (sss_one (ss_ret se_bl)) sss_nil)
      (sss_one (ss_ret (se_not (se_callB (cr_anyD rfl) (by rfl) z_any (by decide +kernel) (sa_cons (se_comp (own := [("thing", 10)]) rfl sc_law.nd (si_seq (se_lst (sa_cons se_str (sa_cons se_str (sa_cons se_str (sa_cons se_str (sa_cons se_str (sa_cons se_int (sa_cons se_non (sa_cons (se_tup (sa_cons se_str sa_nil)) sa_nil)))))))))) (blkOk_by (own := [("thing", 10)]) (N := N_law) (sc := defScope s_law) (by decide +kernel)) (gt_name (by decide)) (fun _ _ _ _ _ => pg_name (i := 10) sc_law.nd rfl (.inl rfl)) (fun _ _ _ _ _ => sts_nil) (fun _ _ _ _ _ => (se_call (n := 1) G_is_name (hr.mono (by decide)) (by rfl) D_is_name.m D_is_name.fn.kp D_is_name.b passA (sa_cons (se_var 10) sa_nil)))) sa_nil)))))))))))
end

set_option maxHeartbeats 0 in
theorem all_mk {l : PySem.W.OpenLaw} {w : World} {K : PySem.W.Frag} {h : Heap} {mg : Str → Option Value} {fa : Addr} (X : K.In h) (G : h.Ns mainGlobals mg) (hfa : mg "law" = some (.ref fa))
    (a__law_pot : DefIn K "_law_pot" s__law_pot)
    (a__law_next : DefIn K "_law_next" s__law_next)
    (a__law_gcd : DefIn K "_law_gcd" s__law_gcd)
    (a__law_low : DefIn K "_law_low" s__law_low)
    (a__law_number : DefIn K "_law_number" s__law_number)
    (a__law_cross : DefIn K "_law_cross" s__law_cross)
    (a__step : DefIn K "_step" s__step)
    (a_sign : DefIn K "sign" s_sign)
    (a_turn : DefIn K "turn" s_turn)
    (a__law_is_int : DefIn K "_law_is_int" s__law_is_int)
    (a__law_same : DefIn K "_law_same" s__law_same)
    (a__law_between : DefIn K "_law_between" s__law_between)
    (a_is_less : DefIn K "is_less" s_is_less)
    (a__is_between : DefIn K "_is_between" s__is_between)
    (a_on_segment : DefIn K "on_segment" s_on_segment)
    (a_is_whole : DefIn K "is_whole" s_is_whole)
    (a_is_corner_from : DefIn K "is_corner_from" s_is_corner_from)
    (a_is_corner : DefIn K "is_corner" s_is_corner)
    (a_point : DefIn K "point" s_point)
    (a_is_name : DefIn K "is_name" s_is_name)
    (a_law : DefIn K "law" s_law)
    (z_int : PySem.W.nsIn K mainGlobals "int" = some none)
    (z_list : PySem.W.nsIn K mainGlobals "list" = some none)
    (z_len : PySem.W.nsIn K mainGlobals "len" = some none)
    (z_abs : PySem.W.nsIn K mainGlobals "abs" = some none)
    (z_range : PySem.W.nsIn K mainGlobals "range" = some none)
    (z_isinstance : PySem.W.nsIn K mainGlobals "isinstance" = some none)
    (z_bool : PySem.W.nsIn K mainGlobals "bool" = some none)
    (z_str : PySem.W.nsIn K mainGlobals "str" = some none)
    (z_tuple : PySem.W.nsIn K mainGlobals "tuple" = some none)
    (z_all : PySem.W.nsIn K mainGlobals "all" = some none)
    (z_any : PySem.W.nsIn K mainGlobals "any" = some none)
    (k_FARTHEST : ∃ t, PySem.W.nsIn K mainGlobals "FARTHEST" = some (some (.int 10000 t)))
    (k_LONGEST_NAME : ∃ t, PySem.W.nsIn K mainGlobals "LONGEST_NAME" = some (some (.int 12 t)))
    : ∃ fd : FuncData, (∀ (s : Shared) (v : Value), BindsTo s fd ⟨[v], []⟩ [("script", v)]) ∧ ∀ base : Heap, K.In base → base.Ns mainGlobals mg → FnOk l.prog w K mg base CX0 6 fa fd ["script"] (spM K 1 F_law) := by
  obtain ⟨f__law_pot, fd__law_pot, D__law_pot, bt__law_pot⟩ := a__law_pot.get ["script"] X G (fun _ _ _ _ _ _ us hl => match us, hl with | [_], _ => rfl)
  obtain ⟨f__law_next, fd__law_next, D__law_next, bt__law_next⟩ := a__law_next.get ["pot", "limit"] X G (fun _ _ _ _ _ _ us hl => match us, hl with | [_, _], _ => rfl)
  obtain ⟨f__law_gcd, fd__law_gcd, D__law_gcd, bt__law_gcd⟩ := a__law_gcd.get ["a", "b"] X G (fun _ _ _ _ _ _ us hl => match us, hl with | [_, _], _ => rfl)
  obtain ⟨f__law_low, fd__law_low, D__law_low, bt__law_low⟩ := a__law_low.get ["n", "d"] X G (fun _ _ _ _ _ _ us hl => match us, hl with | [_, _], _ => rfl)
  obtain ⟨f__law_number, fd__law_number, D__law_number, bt__law_number⟩ := a__law_number.get ["pot"] X G (fun _ _ _ _ _ _ us hl => match us, hl with | [_], _ => rfl)
  obtain ⟨f__law_cross, fd__law_cross, D__law_cross, bt__law_cross⟩ := a__law_cross.get ["p", "q", "r"] X G (fun _ _ _ _ _ _ us hl => match us, hl with | [_, _, _], _ => rfl)
  obtain ⟨f__step, fd__step, D__step, bt__step⟩ := a__step.get ["a", "b"] X G (fun _ _ _ _ _ _ us hl => match us, hl with | [_, _], _ => rfl)
  obtain ⟨f_sign, fd_sign, D_sign, bt_sign⟩ := a_sign.get ["a"] X G (fun _ _ _ _ _ _ us hl => match us, hl with | [_], _ => rfl)
  obtain ⟨f_turn, fd_turn, D_turn, bt_turn⟩ := a_turn.get ["p", "q", "r"] X G (fun _ _ _ _ _ _ us hl => match us, hl with | [_, _, _], _ => rfl)
  obtain ⟨f__law_is_int, fd__law_is_int, D__law_is_int, bt__law_is_int⟩ := a__law_is_int.get ["value"] X G (fun _ _ _ _ _ _ us hl => match us, hl with | [_], _ => rfl)
  obtain ⟨f__law_same, fd__law_same, D__law_same, bt__law_same⟩ := a__law_same.get ["found", "value"] X G (fun _ _ _ _ _ _ us hl => match us, hl with | [_, _], _ => rfl)
  obtain ⟨f__law_between, fd__law_between, D__law_between, bt__law_between⟩ := a__law_between.get ["a", "b", "c"] X G (fun _ _ _ _ _ _ us hl => match us, hl with | [_, _, _], _ => rfl)
  obtain ⟨f_is_less, fd_is_less, D_is_less, bt_is_less⟩ := a_is_less.get ["a", "b"] X G (fun _ _ _ _ _ _ us hl => match us, hl with | [_, _], _ => rfl)
  obtain ⟨f__is_between, fd__is_between, D__is_between, bt__is_between⟩ := a__is_between.get ["n", "a", "b"] X G (fun _ _ _ _ _ _ us hl => match us, hl with | [_, _, _], _ => rfl)
  obtain ⟨f_on_segment, fd_on_segment, D_on_segment, bt_on_segment⟩ := a_on_segment.get ["p", "a", "b"] X G (fun _ _ _ _ _ _ us hl => match us, hl with | [_, _, _], _ => rfl)
  obtain ⟨f_is_whole, fd_is_whole, D_is_whole, bt_is_whole⟩ := a_is_whole.get ["thing", "least", "most"] X G (fun _ _ _ _ _ _ us hl => match us, hl with | [_, _, _], _ => rfl)
  obtain ⟨f_is_corner_from, fd_is_corner_from, D_is_corner_from, bt_is_corner_from⟩ := a_is_corner_from.get ["thing", "least", "most"] X G (fun _ _ _ _ _ _ us hl => match us, hl with | [_, _, _], _ => rfl)
  obtain ⟨f_is_corner, fd_is_corner, D_is_corner, bt_is_corner⟩ := a_is_corner.get ["thing"] X G (fun _ _ _ _ _ _ us hl => match us, hl with | [_], _ => rfl)
  obtain ⟨f_point, fd_point, D_point, bt_point⟩ := a_point.get ["corner"] X G (fun _ _ _ _ _ _ us hl => match us, hl with | [_], _ => rfl)
  obtain ⟨f_is_name, fd_is_name, D_is_name, bt_is_name⟩ := a_is_name.get ["thing"] X G (fun _ _ _ _ _ _ us hl => match us, hl with | [_], _ => rfl)
  obtain ⟨f_law, fd_law, D_law, bt_law⟩ := a_law.get ["script"] X G (fun _ _ _ _ _ _ us hl => match us, hl with | [_], _ => rfl)
  have e := hfa.symm.trans D_law.m
  cases e
  have z_int := PySem.W.mg_none_of X G z_int
  have z_list := PySem.W.mg_none_of X G z_list
  have z_len := PySem.W.mg_none_of X G z_len
  have z_abs := PySem.W.mg_none_of X G z_abs
  have z_range := PySem.W.mg_none_of X G z_range
  have z_isinstance := PySem.W.mg_none_of X G z_isinstance
  have z_bool := PySem.W.mg_none_of X G z_bool
  have z_str := PySem.W.mg_none_of X G z_str
  have z_tuple := PySem.W.mg_none_of X G z_tuple
  have z_all := PySem.W.mg_none_of X G z_all
  have z_any := PySem.W.mg_none_of X G z_any
  have k_FARTHEST := let ⟨t, q⟩ := k_FARTHEST; (⟨t, PySem.W.mg_of X G q⟩ : ∃ t, mg "FARTHEST" = some _)
  have k_LONGEST_NAME := let ⟨t, q⟩ := k_LONGEST_NAME; (⟨t, PySem.W.mg_of X G q⟩ : ∃ t, mg "LONGEST_NAME" = some _)
  refine ⟨fd_law, fun s v => bt_law s [v] rfl, fun base _ _ => ?_⟩
  have G__law_pot := ok__law_pot (P := l.prog) (w := w) (base := base) D__law_pot z_int z_list
  have G__law_next := ok__law_next (P := l.prog) (w := w) (base := base) D__law_next z_len z_int z_abs
  have G__law_gcd := ok__law_gcd (P := l.prog) (w := w) (base := base) D__law_gcd z_range z_abs z_int
  have G__law_low := ok__law_low (P := l.prog) (w := w) (base := base) D__law_low D__law_gcd G__law_gcd
  have G__law_number := ok__law_number (P := l.prog) (w := w) (base := base) D__law_number D__law_next G__law_next D__law_low G__law_low
  have G__law_cross := ok__law_cross (P := l.prog) (w := w) (base := base) D__law_cross z_int
  have G__step := ok__step (P := l.prog) (w := w) (base := base) D__step
  have G_sign := ok_sign (P := l.prog) (w := w) (base := base) D_sign
  have G_turn := ok_turn (P := l.prog) (w := w) (base := base) D_turn D__step G__step D_sign G_sign
  have G__law_is_int := ok__law_is_int (P := l.prog) (w := w) (base := base) D__law_is_int z_isinstance z_int z_bool
  have G__law_same := ok__law_same (P := l.prog) (w := w) (base := base) D__law_same D__law_is_int G__law_is_int z_isinstance z_bool z_int z_str z_list z_tuple z_len z_range z_all
  have G__law_between := ok__law_between (P := l.prog) (w := w) (base := base) D__law_between
  have G_is_less := ok_is_less (P := l.prog) (w := w) (base := base) D_is_less
  have G__is_between := ok__is_between (P := l.prog) (w := w) (base := base) D__is_between D_is_less G_is_less
  have G_on_segment := ok_on_segment (P := l.prog) (w := w) (base := base) D_on_segment D_turn G_turn D__is_between G__is_between
  have G_is_whole := ok_is_whole (P := l.prog) (w := w) (base := base) D_is_whole z_isinstance z_int z_bool
  have G_is_corner_from := ok_is_corner_from (P := l.prog) (w := w) (base := base) D_is_corner_from D_is_whole G_is_whole z_isinstance z_tuple z_len
  have G_is_corner := ok_is_corner (P := l.prog) (w := w) (base := base) D_is_corner D_is_corner_from G_is_corner_from k_FARTHEST
  have G_point := ok_point (P := l.prog) (w := w) (base := base) D_point
  have G_is_name := ok_is_name (P := l.prog) (w := w) (base := base) D_is_name z_isinstance z_str z_len z_all k_LONGEST_NAME
  exact ok_law D_law D__law_pot G__law_pot D__law_number G__law_number D__law_next G__law_next D__law_low G__law_low D__law_cross G__law_cross D_turn G_turn D__law_same G__law_same D__law_between G__law_between D_on_segment G_on_segment D_is_corner G_is_corner D_point G_point D_is_name G_is_name z_range z_int z_tuple z_all z_any


end LAW
open PySem PySem.W PyProof.Rows
set_option maxHeartbeats 0 in
theorem PySem.Challenge.cw_roomyway_k01_turns_and_segments_holds : PySem.Challenge.rw_roomyway_k01_turns_and_segments.Holds := by
  w_on; o_law; k_head; (case hw => w_witness2)
  k_fill
  refine L2.walk_ofK (l := PySem.Challenge.rw_roomyway_k01_turns_and_segments) (n := 63) (k := 6) (x := "script") (CX := L2.CX0) (sp := fun K => PL.spM K 1 LAW.F_law) rfl (by decide) rfl ⟨rfl, by decide, by decide⟩ (fun w h Y => PySem.W.kIn_of Y) ?F (fun K H a ns hl hO hS => PL.law_end hO hS (LAW.law_true ns hl)) (fun _ _ _ _ h => h)
  case F =>
    intro w mg fa h KX G hmg
    refine' LAW.all_mk KX G hmg ?a__law_pot ?a__law_next ?a__law_gcd ?a__law_low ?a__law_number ?a__law_cross ?a__step ?a_sign ?a_turn ?a__law_is_int ?a__law_same ?a__law_between ?a_is_less ?a__is_between ?a_on_segment ?a_is_whole ?a_is_corner_from ?a_is_corner ?a_point ?a_is_name ?a_law ?z_int ?z_list ?z_len ?z_abs ?z_range ?z_isinstance ?z_bool ?z_str ?z_tuple ?z_all ?z_any ?k_FARTHEST ?k_LONGEST_NAME
    (case a__law_pot => refine' PL.DefIn.mk ?a ?l ?c ?k; (case a => k_is); (case l => k_is); (case c => k_is); (case k => k_is))
    (case a__law_next => refine' PL.DefIn.mk ?a ?l ?c ?k; (case a => k_is); (case l => k_is); (case c => k_is); (case k => k_is))
    (case a__law_gcd => refine' PL.DefIn.mk ?a ?l ?c ?k; (case a => k_is); (case l => k_is); (case c => k_is); (case k => k_is))
    (case a__law_low => refine' PL.DefIn.mk ?a ?l ?c ?k; (case a => k_is); (case l => k_is); (case c => k_is); (case k => k_is))
    (case a__law_number => refine' PL.DefIn.mk ?a ?l ?c ?k; (case a => k_is); (case l => k_is); (case c => k_is); (case k => k_is))
    (case a__law_cross => refine' PL.DefIn.mk ?a ?l ?c ?k; (case a => k_is); (case l => k_is); (case c => k_is); (case k => k_is))
    (case a__step => refine' PL.DefIn.mk ?a ?l ?c ?k; (case a => k_is); (case l => k_is); (case c => k_is); (case k => k_is))
    (case a_sign => refine' PL.DefIn.mk ?a ?l ?c ?k; (case a => k_is); (case l => k_is); (case c => k_is); (case k => k_is))
    (case a_turn => refine' PL.DefIn.mk ?a ?l ?c ?k; (case a => k_is); (case l => k_is); (case c => k_is); (case k => k_is))
    (case a__law_is_int => refine' PL.DefIn.mk ?a ?l ?c ?k; (case a => k_is); (case l => k_is); (case c => k_is); (case k => k_is))
    (case a__law_same => refine' PL.DefIn.mk ?a ?l ?c ?k; (case a => k_is); (case l => k_is); (case c => k_is); (case k => k_is))
    (case a__law_between => refine' PL.DefIn.mk ?a ?l ?c ?k; (case a => k_is); (case l => k_is); (case c => k_is); (case k => k_is))
    (case a_is_less => refine' PL.DefIn.mk ?a ?l ?c ?k; (case a => k_is); (case l => k_is); (case c => k_is); (case k => k_is))
    (case a__is_between => refine' PL.DefIn.mk ?a ?l ?c ?k; (case a => k_is); (case l => k_is); (case c => k_is); (case k => k_is))
    (case a_on_segment => refine' PL.DefIn.mk ?a ?l ?c ?k; (case a => k_is); (case l => k_is); (case c => k_is); (case k => k_is))
    (case a_is_whole => refine' PL.DefIn.mk ?a ?l ?c ?k; (case a => k_is); (case l => k_is); (case c => k_is); (case k => k_is))
    (case a_is_corner_from => refine' PL.DefIn.mk ?a ?l ?c ?k; (case a => k_is); (case l => k_is); (case c => k_is); (case k => k_is))
    (case a_is_corner => refine' PL.DefIn.mk ?a ?l ?c ?k; (case a => k_is); (case l => k_is); (case c => k_is); (case k => k_is))
    (case a_point => refine' PL.DefIn.mk ?a ?l ?c ?k; (case a => k_is); (case l => k_is); (case c => k_is); (case k => k_is))
    (case a_is_name => refine' PL.DefIn.mk ?a ?l ?c ?k; (case a => k_is); (case l => k_is); (case c => k_is); (case k => k_is))
    (case a_law => refine' PL.DefIn.mk ?a ?l ?c ?k; (case a => k_is); (case l => k_is); (case c => k_is); (case k => k_is))
    (case z_int => k_is)
    (case z_list => k_is)
    (case z_len => k_is)
    (case z_abs => k_is)
    (case z_range => k_is)
    (case z_isinstance => k_is)
    (case z_bool => k_is)
    (case z_str => k_is)
    (case z_tuple => k_is)
    (case z_all => k_is)
    (case z_any => k_is)
    (case k_FARTHEST => exact ⟨_, by k_is⟩)
    (case k_LONGEST_NAME => exact ⟨_, by k_is⟩)
