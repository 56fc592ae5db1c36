import PyProof.Rows.All
import Wide.All
import OpenK.AllK
import Wide.FinOn
import HandS.ForMost
import HandS.Wide
import HandS.WideMore
import HandS.Gcd
import HandS.IsInst
import HandS.Flow
import HandS.Style
import KE.KDictKeyed
import KE.KDictWalk
import HandS.TupAny
import HandS.TupLe
import HandS.TupMul
import HandS.Conv
import HandS.SortRule
import HandS.TupSets
import HandS.DictTup
import HandS.Text
import HandS.Deep
import HandS.SortInts
import HandS.WordsExc
import HandS.RaiseMore
import HandS.Small
import HandS.Dict
import HandS.Zip
import HandS.ExcIs
import KE.KStateDown
import HandS.Head0
import HandS.Head1
import HandS.Head2
import HandS.Head3
import HandS.HeadEnd
import HandS.HeadHook1
import HandS.HeadHook2
import HandS.HeadHook3
import HandS.HeadHook4
import HandS.NoneIn
import HandS.Iter
import HandS.SetFor
import PyProof.EqKinds
import KE.KRevSl
import PyProof.StrOps2
import PyProof.ListRange
import HandS.FStr
import HandS.WideBits
import HandS.StrMore
import PyProof.Rows.StrJoinRep
import PySem.Challenge.RW_roomyway_k32_write_and_read
set_option Elab.async false
set_option linter.all false
set_option maxRecDepth 100000
set_option autoImplicit false
/-! PL36: what is read behind the top. -/
namespace PL
open PySem PySem.Spec PyProof.Rows L2
def clsBody : Stmt → List Stmt
  | .ClassDef _ _ _ body .. => body
  | _ => []
/-! ### the objects that the facts speak of: no doubles struck, no texts of code walked -/
section
def refsY (o : Obj) : List Addr := match o.data with
  | .dict es _ => es.toList.flatMap fun e => He.refV e.val
  | .func fd => He.refV fd.code ++ (He.refV fd.defaults ++ He.refV fd.kwdefaults)
  | .cls cd => [cd.ns]
  | _ => []
def nextY (g : Addr → Option Obj) (as : List Addr) : List Addr := as.flatMap fun a => match g a with
  | some o => refsY o
  | none => []
def asY (g : Addr → Option Obj) : Nat → List Addr → List Addr
  | 0, as => as
  | n + 1, as => as ++ asY g n (nextY g as)
def frY (g : Addr → Option Obj) : PySem.W.Frag := He.frT g (asY g 4 [mainGlobals])
def obsY (fa : List He.Fa) (fn : List He.DefD) (ex : PySem.W.Frag → Bool) (g : Addr → Option Obj) : He.AlX := (He.obsT fa fn [] (frY g), ex (frY g))
theorem saysY_of {fa : List He.Fa} {fn : List He.DefD} {ex : PySem.W.Frag → Bool} {w : World} {h : Heap} (e : obsY fa fn ex h.get? = He.valX fn [] w) : He.SaysX fa fn [] [] ex w h (frY h.get?) :=
  ⟨congrArg (fun z : He.AlX => z.1) e, congrArg (fun z : He.AlX => z.2) e, fun _ hp => (nomatch hp), fun _ hp => (nomatch hp), fun _ hp => (nomatch hp)⟩
def hookY (fa : List He.Fa) (fn : List He.DefD) (ex : PySem.W.Frag → Bool) : PySem.W.Hook where
  α := He.AlX
  obs := fun s => obsY fa fn ex s.heap.get?
  val := fun w => He.valX fn [] w
  says := fun w h => ∃ K : PySem.W.Frag, K.In h ∧ He.SaysX fa fn [] [] ex w h K
  of := fun _ _ e => ⟨_, He.frT_in, saysY_of e⟩
  keeps := fun _ _ _ ⟨K, hK, c⟩ k => ⟨K, PySem.W.Frag.In.keeps hK k, ⟨c.t, c.more, c.hd, c.out, fun p hp => k _ _ (c.empty p hp)⟩⟩
theorem obsY_eq {fa : List He.Fa} {fn : List He.DefD} {ex : PySem.W.Frag → Bool} {g : Addr → Option Obj} {s : Shared} (h : ∀ a, g a = s.heap.get? a) : obsY fa fn ex g = (hookY fa fn ex).obs s := by
  have e : g = s.heap.get? := funext h
  rw [e]
  rfl
end
end PL

namespace LAW
open PySem PySem.Spec PyProof.Rows L2 PL
def topS (i : Nat) : Stmt := PySem.Challenge.pw_roomyway_k32_write_and_read.main.body.getD i (.Pass ⟨0, 0, 0, 0⟩)
abbrev s__law_pot : Stmt := topS 17
abbrev N__law_pot : List Str := ["script", "seed", "cell"]
theorem sc__law_pot : FnScope N__law_pot ["script"] (defScope s__law_pot) := ⟨rfl, rfl, rfl, by decide +kernel, rfl, by decide +kernel, by decide +kernel⟩
abbrev s__law_next : Stmt := topS 18
abbrev N__law_next : List Str := ["pot", "limit", "mixed", "cell", "found"]
theorem sc__law_next : FnScope N__law_next ["pot", "limit"] (defScope s__law_next) := ⟨rfl, rfl, rfl, by decide +kernel, rfl, by decide +kernel, by decide +kernel⟩
abbrev s__law_thing : Stmt := topS 21
abbrev N__law_thing : List Str := ["pot", "depth", "kind", "k"]
theorem sc__law_thing : FnScope N__law_thing ["pot", "depth"] (defScope s__law_thing) := ⟨rfl, rfl, rfl, by decide +kernel, rfl, by decide +kernel, by decide +kernel⟩
abbrev s__digits : Stmt := topS 10
abbrev N__digits : List Str := ["n", "blocks", "low"]
theorem sc__digits : FnScope N__digits ["n"] (defScope s__digits) := ⟨rfl, rfl, rfl, by decide +kernel, rfl, by decide +kernel, by decide +kernel⟩
abbrev s_write : Stmt := topS 9
abbrev N_write : List Str := ["thing", "part"]
theorem sc_write : FnScope N_write ["thing"] (defScope s_write) := ⟨rfl, rfl, rfl, by decide +kernel, rfl, by decide +kernel, by decide +kernel⟩
abbrev s__law_written : Stmt := topS 22
abbrev N__law_written : List Str := ["thing", "part"]
theorem sc__law_written : FnScope N__law_written ["thing"] (defScope s__law_written) := ⟨rfl, rfl, rfl, by decide +kernel, rfl, by decide +kernel, by decide +kernel⟩
abbrev s__digits_at : Stmt := topS 14
abbrev N__digits_at : List Str := ["text", "at", "end"]
theorem sc__digits_at : FnScope N__digits_at ["text", "at"] (defScope s__digits_at) := ⟨rfl, rfl, rfl, by decide +kernel, rfl, by decide +kernel, by decide +kernel⟩
abbrev s__integer : Stmt := topS 15
abbrev N__integer : List Str := ["digits", "most"]
theorem sc__integer : FnScope N__integer ["digits", "most"] (defScope s__integer) := ⟨rfl, rfl, rfl, by decide +kernel, rfl, by decide +kernel, by decide +kernel⟩
abbrev s__thing_at : Stmt := topS 12
abbrev N__thing_at : List Str := ["text", "at", "depth", "sign", "begin", "end", "digits"]
theorem sc__thing_at : FnScope N__thing_at ["text", "at", "depth"] (defScope s__thing_at) := ⟨rfl, rfl, rfl, by decide +kernel, rfl, by decide +kernel, by decide +kernel⟩
abbrev s__tuple_at : Stmt := topS 13
abbrev N__tuple_at : List Str := ["text", "at", "depth", "parts", "sign", "part", "end"]
theorem sc__tuple_at : FnScope N__tuple_at ["text", "at", "depth"] (defScope s__tuple_at) := ⟨rfl, rfl, rfl, by decide +kernel, rfl, by decide +kernel, by decide +kernel⟩
abbrev s_read : Stmt := topS 11
abbrev N_read : List Str := ["text", "thing", "end"]
theorem sc_read : FnScope N_read ["text"] (defScope s_read) := ⟨rfl, rfl, rfl, by decide +kernel, rfl, by decide +kernel, by decide +kernel⟩
abbrev s__law_is_int : Stmt := topS 19
abbrev N__law_is_int : List Str := ["value"]
theorem sc__law_is_int : FnScope N__law_is_int ["value"] (defScope s__law_is_int) := ⟨rfl, rfl, rfl, by decide +kernel, rfl, by decide +kernel, by decide +kernel⟩
abbrev s__law_same : Stmt := topS 20
abbrev N__law_same : List Str := ["found", "value", "k"]
theorem sc__law_same : FnScope N__law_same ["found", "value"] (defScope s__law_same) := ⟨rfl, rfl, rfl, by decide +kernel, rfl, by decide +kernel, by decide +kernel⟩
abbrev s_law : Stmt := topS 23
abbrev N_law : List Str := ["script", "pot", "thing", "k", "one", "text"]
theorem sc_law : FnScope N_law ["script"] (defScope s_law) := ⟨rfl, rfl, rfl, by decide +kernel, rfl, by decide +kernel, by decide +kernel⟩

end LAW
namespace LAW
open PySem PySem.Spec PyProof.Rows L2 PL
def hfa_0 : List (He.Fa) := [.glo "_law_pot", .glo "_law_next", .glo "_law_thing", .glo "_digits", .glo "write", .glo "_law_written", .glo "_digits_at", .glo "_integer", .glo "_thing_at", .glo "_tuple_at", .glo "read", .glo "_law_is_int", .glo "_law_same", .glo "law", .free "int", .free "list", .free "len", .free "abs", .free "range", .free "tuple", .free "divmod", .free "str", .free "isinstance", .free "bool", .free "all"]
def hfa_1 : List (He.Fa) := [.int "BLOCK" (10000000000000000000000000000000000000000000000000000000000000000), .int "DIGITS_OF_BLOCK" (64), .int "LONGEST_INTEGER" (200), .int "LONGEST_LENGTH" (2), .int "MOST_DEEP" (40)]
def hfa : List (He.Fa) := hfa_0 ++ hfa_1
def hfn_0 : List (He.DefD) := [⟨("_law_pot", none), "_law_pot", "_law_pot", defArgs s__law_pot, defBody s__law_pot, defScope s__law_pot, [], []⟩, ⟨("_law_next", none), "_law_next", "_law_next", defArgs s__law_next, defBody s__law_next, defScope s__law_next, [], []⟩, ⟨("_law_thing", none), "_law_thing", "_law_thing", defArgs s__law_thing, defBody s__law_thing, defScope s__law_thing, [], []⟩, ⟨("_digits", none), "_digits", "_digits", defArgs s__digits, defBody s__digits, defScope s__digits, [], []⟩, ⟨("write", none), "write", "write", defArgs s_write, defBody s_write, defScope s_write, [], []⟩, ⟨("_law_written", none), "_law_written", "_law_written", defArgs s__law_written, defBody s__law_written, defScope s__law_written, [], []⟩, ⟨("_digits_at", none), "_digits_at", "_digits_at", defArgs s__digits_at, defBody s__digits_at, defScope s__digits_at, [], []⟩, ⟨("_integer", none), "_integer", "_integer", defArgs s__integer, defBody s__integer, defScope s__integer, [], []⟩, ⟨("_thing_at", none), "_thing_at", "_thing_at", defArgs s__thing_at, defBody s__thing_at, defScope s__thing_at, [], []⟩, ⟨("_tuple_at", none), "_tuple_at", "_tuple_at", defArgs s__tuple_at, defBody s__tuple_at, defScope s__tuple_at, [], []⟩, ⟨("read", none), "read", "read", defArgs s_read, defBody s_read, defScope s_read, [], []⟩, ⟨("_law_is_int", none), "_law_is_int", "_law_is_int", defArgs s__law_is_int, defBody s__law_is_int, defScope s__law_is_int, [], []⟩, ⟨("_law_same", none), "_law_same", "_law_same", defArgs s__law_same, defBody s__law_same, defScope s__law_same, [], []⟩, ⟨("law", none), "law", "law", defArgs s_law, defBody s_law, defScope s_law, [], []⟩]
def hfn : List (He.DefD) := hfn_0
def hex_0 : List (PySem.W.Frag → Bool) := []
def hex : List (PySem.W.Frag → Bool) := hex_0
def hnames_0 : List (PySem.Str) := ["RoomError", "BadText", "MOST_DEEP", "LONGEST_LENGTH", "LONGEST_INTEGER", "DIGITS_OF_BLOCK", "BLOCK", "write", "_digits", "read", "_thing_at", "_tuple_at", "_digits_at", "_integer", "_law_pot", "_law_next", "_law_is_int", "_law_same", "_law_thing", "_law_written"]
def hnames : List (PySem.Str) := hnames_0
abbrev RR : PySem.W.OpenRow := PySem.W.OpenLaw.row PySem.Challenge.rw_roomyway_k32_write_and_read
def hxx (K : PySem.W.Frag) : Bool := hex.all fun f => f K
abbrev hk : PySem.W.Hook := PL.hookY hfa hfn hxx
def hob (s : PySem.W.SharedT) : He.AlX := PL.obsY hfa hfn hxx (HandSHeadRun.getT s)
theorem hob_eq (s : PySem.W.SharedT) : hob s = hk.obs s.abs := PL.obsY_eq (HandSHeadRun.getT_eq s)
set_option maxHeartbeats 0 in
theorem hrun (w : World) : HandSHeadRun.RunEq RR (PySem.W.view RR.prog [23]) hk hob 20000 hnames w := by
  intro os
  kernel_rfl
end LAW
/-! PL1: data, cells, a store; how they lie in the layer's abstract heap; readings by a mirror. -/
namespace PL
open PySem PySem.Spec PyProof.Rows L2

inductive D where
  | non | bl (b : Bool) | int (i : Int) | str (x : Str) | tup (xs : List D) | flst (xs : List D) | vls (xs : List D) | ptr (n : Nat) | rng (lo hi c : Int)

/-! ### dicts whose keys are tuples of integers and None, however nested -/
mutual
def nkD : NestedKey → D
  | .none => .non
  | .num i => .int i
  | .text x => .str x
  | .tup ks => .tup (nkDs ks)
def nkDs : List NestedKey → List D
  | [] => []
  | k :: ks => nkD k :: nkDs ks
end
mutual
/-- no text stands in it: its hash is the same in every world -/
def nkOk : NestedKey → Bool
  | .none => true
  | .num _ => true
  | .text _ => false
  | .tup ks => nkOks ks
def nkOks : List NestedKey → Bool
  | [] => true
  | k :: ks => nkOk k && nkOks ks
end
/-- an entry: key, where its tuple stands, value -/
abbrev Ent := NestedKey × Addr × V
def EntR (p : Ent) (q : NestedKey × Addr × Value) : Prop := p.1 = q.1 ∧ p.2.1 = q.2.1 ∧ RelV p.2.2 q.2.2
def RawN (a : Addr) (xs : List (NestedKey × Addr × Value)) (h : Heap) : Prop := ∃ (w0 : World) (o : Obj) (es : Array DictEntry) (ep : Nat), h.get? a = some o ∧ o.ExactDict ∧ o.data = .dict es ep ∧ es.toList = xs.map (fun x => (⟨x.1.hash w0, .ref x.2.1, x.2.2⟩ : DictEntry)) ∧ (xs.map (·.1)).Nodup
def NDict (a : Addr) (ents : List Ent) : Heap → Prop := fun h => (a == sysModules) = false ∧ ents.length ≤ sizeLine ∧ ∃ xs, Paired EntR ents xs ∧ RawN a xs h

inductive Cell where
  | lst (xs : List D)
  | dK (kvs : List (Key × D))
  | dT (kvs : List (List Key × D))
  | ins (C : Str) (fs : List (Str × D))
  | fK (kvs : List (Key × D))
  | dN (kvs : List (NestedKey × D))
  | fN (kvs : List (NestedKey × D))
abbrev S := List Cell

inductive R (α : Type) where
  | stuck | ok (a : α) (s : S) | exc (c : Str) (s : S)
def M (α : Type) := S → R α
def M.pure {α} (a : α) : M α := fun s => .ok a s
def M.bind {α β} (m : M α) (f : α → M β) : M β := fun s => match m s with
  | .stuck => .stuck | .ok a s' => f a s' | .exc c s' => .exc c s'
instance : Monad M where
  pure := M.pure
  bind := M.bind
def stuck {α} : M α := fun _ => .stuck
theorem pure_run {α} (a : α) (s : S) : (Pure.pure a : M α) s = .ok a s := rfl
theorem bind_run {α β} (m : M α) (f : α → M β) (s : S) : (m >>= f) s = match m s with
  | .stuck => .stuck | .ok a s' => f a s' | .exc c s' => .exc c s' := rfl
theorem stuck_run {α} (s : S) : (stuck : M α) s = .stuck := rfl
theorem bind_ok {α β} {m : M α} {f : α → M β} {s s' : S} {a : α} (h : m s = .ok a s') : (m >>= f) s = f a s' := by
  rw [bind_run, h]
theorem bind_exc {α β} {m : M α} {f : α → M β} {s s' : S} {c : Str} (h : m s = .exc c s') : (m >>= f) s = .exc c s' := by
  rw [bind_run, h]
abbrev Env := List (Option D)

/-! ### how a store lies in the heap -/
/-- where the cells stand; what is being made and must not be named -/
structure Mu where
  c : List Addr
  h : List Addr
def Mu.add (μ : Mu) (p : Addr) : Mu := ⟨μ.c ++ [p], μ.h⟩
def Mu.hide (μ : Mu) (p : Addr) : Mu := ⟨μ.c, p :: μ.h⟩
/-- a list that never changes: frozen, or of the written part -/
def FrzL (K : PySem.W.Frag) (H : Hp) (a : Addr) (xs : List V) : Prop :=
  (∃ o, H a = some (.frz o (.lst xs))) ∨
    ∃ (o : Obj) (its : Array Value) (n : Nat), K.lookup a = some o ∧ o.cls = .type "list" ∧ o.dict = none ∧ o.data = .seq its n ∧ its.size ≤ sizeLine ∧ Vals xs its.toList
theorem FrzL.sqL {K : PySem.W.Frag} {H : Hp} {a : Addr} {xs : List V} (h : FrzL K H a xs) : SqL K H a xs := by
  rcases h with ⟨o, h⟩ | h
  · exact .inl (.inr ⟨o, h⟩)
  · exact .inr h
/-- a list of one's own that is no cell: nobody writes it any more -/
structure VlsL (μ : Mu) (H : Hp) (a : Addr) (xs : List V) : Prop where
  at_ : H a = some (.lst xs)
  nc : a ∉ μ.c
  nh : a ∉ μ.h
theorem VlsL.sqL {K : PySem.W.Frag} {μ : Mu} {H : Hp} {a : Addr} {xs : List V} (h : VlsL μ H a xs) : SqL K H a xs := .inl (.inl h.at_)

/-- a range object: never written -/
def rngObj (lo hi c : Int) (t u v : Tok) : Obj := { cls := .type "range", data := .fields #[.int lo t, .int hi u, .int c v] }
def RngAt (H : Hp) (a : Addr) (lo hi c : Int) : Prop := ∃ t u v, H a = some (.frz (rngObj lo hi c t u v) (.ext fun h => h.get? a = some (rngObj lo hi c t u v)))

mutual
inductive Rep (K : PySem.W.Frag) (μ : Mu) (H : Hp) : V → D → Prop
  | non : Rep K μ H .non .non
  | bl (b : Bool) : Rep K μ H (.bl b) (.bl b)
  | int (i : Int) : Rep K μ H (.int i) (.int i)
  | str (x : Str) : Rep K μ H (.str x) (.str x)
  | tup {a : Addr} {xs : List V} {ds : List D} : SqT K H a xs → RepL K μ H xs ds → Rep K μ H (.ref a) (.tup ds)
  | flst {a : Addr} {xs : List V} {ds : List D} : FrzL K H a xs → RepL K μ H xs ds → Rep K μ H (.ref a) (.flst ds)
  | vls {a : Addr} {xs : List V} {ds : List D} : VlsL μ H a xs → RepL K μ H xs ds → Rep K μ H (.ref a) (.vls ds)
  | rng {a : Addr} {lo hi c : Int} : RngAt H a lo hi c → Rep K μ H (.ref a) (.rng lo hi c)
  | ptr {a : Addr} {n : Nat} : μ.c[n]? = some a → Rep K μ H (.ref a) (.ptr n)
inductive RepL (K : PySem.W.Frag) (μ : Mu) (H : Hp) : List V → List D → Prop
  | nil : RepL K μ H [] []
  | cons {v : V} {vs : List V} {d : D} {ds : List D} : Rep K μ H v d → RepL K μ H vs ds → RepL K μ H (v :: vs) (d :: ds)
end

structure Grow (μ : Mu) (H : Hp) (μ' : Mu) (H' : Hp) : Prop where
  pre : ∃ t, μ'.c = μ.c ++ t
  hid : ∃ u, μ'.h = u ++ μ.h ∧ ∀ p ∈ u, H p = none
  tup : ∀ a xs, H a = some (.tup xs) → H' a = some (.tup xs)
  frz : ∀ a o u, H a = some (.frz o u) → H' a = some (.frz o u)
  frm : ∀ a o, H a = some o → a ∉ μ'.c → H' a = some o
  new : ∀ a, a ∈ μ'.c → a ∈ μ.c ∨ H a = none
  trk : ∀ a, H' a = none → H a = none
theorem Grow.refl (μ : Mu) (H : Hp) : Grow μ H μ H := ⟨⟨[], (List.append_nil μ.c).symm⟩, ⟨[], rfl, fun _ h => nomatch h⟩, fun _ _ h => h, fun _ _ _ h => h, fun _ _ h _ => h, fun _ h => .inl h, fun _ h => h⟩
theorem Grow.trans {μ μ1 μ2 : Mu} {H H1 H2 : Hp} (a : Grow μ H μ1 H1) (b : Grow μ1 H1 μ2 H2) : Grow μ H μ2 H2 := by
  obtain ⟨⟨t, ht⟩, ah, a2, a3, a4, a5, a6⟩ := a
  obtain ⟨⟨u, hu⟩, bh, b2, b3, b4, b5, b6⟩ := b
  refine ⟨⟨t ++ u, by rw [hu, ht, List.append_assoc]⟩, (by
    obtain ⟨v, hv, kv⟩ := ah
    obtain ⟨w, hw, kw⟩ := bh
    refine ⟨w ++ v, by rw [hw, hv, List.append_assoc], fun p hp => ?_⟩
    rcases List.mem_append.mp hp with hp | hp
    · exact a6 p (kw p hp)
    · exact kv p hp), fun x xs h => b2 x xs (a2 x xs h), fun x o u h => b3 x o u (a3 x o u h), fun x o h n => b4 x o (a4 x o h fun z => n ?_) n, fun x h => ?_, fun x h => a6 x (b6 x h)⟩
  · rw [hu]
    exact List.mem_append_left _ z
  · rcases b5 x h with h | h
    · exact a5 x h
    · exact .inr (a6 x h)
theorem Grow.at {μ μ' : Mu} {H H' : Hp} (g : Grow μ H μ' H') {n : Nat} {a : Addr} (h : μ.c[n]? = some a) : μ'.c[n]? = some a := by
  obtain ⟨t, e⟩ := g.pre
  rw [e, List.getElem?_append_left (List.getElem?_eq_some_iff.mp h).1]
  exact h
theorem Grow.sqT {K : PySem.W.Frag} {μ μ' : Mu} {H H' : Hp} (g : Grow μ H μ' H') {a : Addr} {xs : List V} (h : SqT K H a xs) : SqT K H' a xs := by
  rcases h with (h | ⟨o, h⟩) | h
  · exact .inl (.inl (g.tup _ _ h))
  · exact .inl (.inr ⟨o, g.frz _ _ _ h⟩)
  · exact .inr h
theorem Grow.frzL {K : PySem.W.Frag} {μ μ' : Mu} {H H' : Hp} (g : Grow μ H μ' H') {a : Addr} {xs : List V} (h : FrzL K H a xs) : FrzL K H' a xs := by
  rcases h with ⟨o, h⟩ | h
  · exact .inl ⟨o, g.frz _ _ _ h⟩
  · exact .inr h
theorem Grow.vls {μ μ' : Mu} {H H' : Hp} (g : Grow μ H μ' H') {a : Addr} {xs : List V} (h : VlsL μ H a xs) : VlsL μ' H' a xs := by
  have n3 : a ∉ μ'.c := fun z => by
    rcases g.new a z with z | z
    · exact h.nc z
    · rw [h.at_] at z
      cases z
  refine ⟨g.frm _ _ h.at_ n3, n3, fun z => ?_⟩
  obtain ⟨u, hu, ku⟩ := g.hid
  rw [hu] at z
  rcases List.mem_append.mp z with z | z
  · have := ku a z
    rw [h.at_] at this
    cases this
  · exact h.nh z

mutual
theorem Rep.grow {K : PySem.W.Frag} {μ μ' : Mu} {H H' : Hp} (g : Grow μ H μ' H') : ∀ (d : D) (v : V), Rep K μ H v d → Rep K μ' H' v d
  | .non, _, h => by cases h; exact .non
  | .bl b, _, h => by cases h; exact .bl b
  | .int i, _, h => by cases h; exact .int i
  | .str x, _, h => by cases h; exact .str x
  | .tup ds, _, h => by
    cases h with
    | tup hs hl => exact .tup (g.sqT hs) (RepL.grow g ds _ hl)
  | .flst ds, _, h => by
    cases h with
    | flst hs hl => exact .flst (g.frzL hs) (RepL.grow g ds _ hl)
  | .vls ds, _, h => by
    cases h with
    | vls hs hl => exact .vls (g.vls hs) (RepL.grow g ds _ hl)
  | .ptr n, _, h => by
    cases h with
    | ptr e => exact .ptr (g.at e)
  | .rng lo hi c, _, h => by
    cases h with
    | rng h => obtain ⟨t, u, v, e⟩ := h; exact .rng ⟨t, u, v, g.frz _ _ _ e⟩
theorem RepL.grow {K : PySem.W.Frag} {μ μ' : Mu} {H H' : Hp} (g : Grow μ H μ' H') : ∀ (ds : List D) (vs : List V), RepL K μ H vs ds → RepL K μ' H' vs ds
  | [], _, h => by cases h; exact .nil
  | d :: ds, _, h => by
    cases h with
    | cons h1 h2 => exact .cons (Rep.grow g d _ h1) (RepL.grow g ds _ h2)
end
/-- .. what is hidden may have changed -/
structure GrowW (μ : Mu) (H : Hp) (μ' : Mu) (H' : Hp) : Prop where
  pre : ∃ t, μ'.c = μ.c ++ t
  hid : ∃ u, μ'.h = u ++ μ.h ∧ ∀ p ∈ u, H p = none
  tup : ∀ a xs, H a = some (.tup xs) → H' a = some (.tup xs)
  frz : ∀ a o u, H a = some (.frz o u) → H' a = some (.frz o u)
  frm : ∀ a o, H a = some o → a ∉ μ'.c → a ∉ μ.h → H' a = some o
  new : ∀ a, a ∈ μ'.c → a ∈ μ.c ∨ H a = none
  trk : ∀ a, H' a = none → H a = none
theorem Grow.w {μ μ' : Mu} {H H' : Hp} (g : Grow μ H μ' H') : GrowW μ H μ' H' := ⟨g.pre, g.hid, g.tup, g.frz, fun a o h n _ => g.frm a o h n, g.new, g.trk⟩
theorem GrowW.trans {μ μ1 μ2 : Mu} {H H1 H2 : Hp} (a : GrowW μ H μ1 H1) (b : GrowW μ1 H1 μ2 H2) : GrowW μ H μ2 H2 := by
  obtain ⟨⟨t, ht⟩, ah, a2, a3, a4, a5, a6⟩ := a
  obtain ⟨⟨u, hu⟩, bh, b2, b3, b4, b5, b6⟩ := b
  obtain ⟨v, hv, kv⟩ := ah
  obtain ⟨w, hw, kw⟩ := bh
  refine ⟨⟨t ++ u, by rw [hu, ht, List.append_assoc]⟩, ⟨w ++ v, by rw [hw, hv, List.append_assoc], fun p hp => ?_⟩, fun x xs h => b2 x xs (a2 x xs h), fun x o u h => b3 x o u (a3 x o u h), fun x o h n m => ?_, fun x h => ?_, fun x h => a6 x (b6 x h)⟩
  · rcases List.mem_append.mp hp with hp | hp
    · exact a6 p (kw p hp)
    · exact kv p hp
  · refine b4 x o (a4 x o h (fun z => n ?_) m) n fun z => ?_
    · rw [hu]
      exact List.mem_append_left _ z
    · rw [hv] at z
      rcases List.mem_append.mp z with z | z
      · have := kv x z
        rw [h] at this
        cases this
      · exact m z
  · rcases b5 x h with h | h
    · exact a5 x h
    · exact .inr (a6 x h)
theorem GrowW.at {μ μ' : Mu} {H H' : Hp} (g : GrowW μ H μ' H') {n : Nat} {a : Addr} (h : μ.c[n]? = some a) : μ'.c[n]? = some a := by
  obtain ⟨t, e⟩ := g.pre
  rw [e, List.getElem?_append_left (List.getElem?_eq_some_iff.mp h).1]
  exact h
theorem GrowW.sqT {K : PySem.W.Frag} {μ μ' : Mu} {H H' : Hp} (g : GrowW μ H μ' H') {a : Addr} {xs : List V} (h : SqT K H a xs) : SqT K H' a xs := by
  rcases h with (h | ⟨o, h⟩) | h
  · exact .inl (.inl (g.tup _ _ h))
  · exact .inl (.inr ⟨o, g.frz _ _ _ h⟩)
  · exact .inr h
theorem GrowW.frzL {K : PySem.W.Frag} {μ μ' : Mu} {H H' : Hp} (g : GrowW μ H μ' H') {a : Addr} {xs : List V} (h : FrzL K H a xs) : FrzL K H' a xs := by
  rcases h with ⟨o, h⟩ | h
  · exact .inl ⟨o, g.frz _ _ _ h⟩
  · exact .inr h
theorem GrowW.vls {μ μ' : Mu} {H H' : Hp} (g : GrowW μ H μ' H') {a : Addr} {xs : List V} (h : VlsL μ H a xs) : VlsL μ' H' a xs := by
  have n3 : a ∉ μ'.c := fun z => by
    rcases g.new a z with z | z
    · exact h.nc z
    · rw [h.at_] at z
      cases z
  refine ⟨g.frm _ _ h.at_ n3 h.nh, n3, fun z => ?_⟩
  obtain ⟨u, hu, ku⟩ := g.hid
  rw [hu] at z
  rcases List.mem_append.mp z with z | z
  · have := ku a z
    rw [h.at_] at this
    cases this
  · exact h.nh z
mutual
theorem Rep.growW {K : PySem.W.Frag} {μ μ' : Mu} {H H' : Hp} (g : GrowW μ H μ' H') : ∀ (d : D) (v : V), Rep K μ H v d → Rep K μ' H' v d
  | .non, _, h => by cases h; exact .non
  | .bl b, _, h => by cases h; exact .bl b
  | .int i, _, h => by cases h; exact .int i
  | .str x, _, h => by cases h; exact .str x
  | .tup ds, _, h => by
    cases h with
    | tup hs hl => exact .tup (g.sqT hs) (RepL.growW g ds _ hl)
  | .flst ds, _, h => by
    cases h with
    | flst hs hl => exact .flst (g.frzL hs) (RepL.growW g ds _ hl)
  | .vls ds, _, h => by
    cases h with
    | vls hs hl => exact .vls (g.vls hs) (RepL.growW g ds _ hl)
  | .ptr n, _, h => by
    cases h with
    | ptr e => exact .ptr (g.at e)
  | .rng lo hi c, _, h => by
    cases h with
    | rng h => obtain ⟨t, u, v, e⟩ := h; exact .rng ⟨t, u, v, g.frz _ _ _ e⟩
theorem RepL.growW {K : PySem.W.Frag} {μ μ' : Mu} {H H' : Hp} (g : GrowW μ H μ' H') : ∀ (ds : List D) (vs : List V), RepL K μ H vs ds → RepL K μ' H' vs ds
  | [], _, h => by cases h; exact .nil
  | d :: ds, _, h => by
    cases h with
    | cons h1 h2 => exact .cons (Rep.growW g d _ h1) (RepL.growW g ds _ h2)
end
theorem RepL.length {K : PySem.W.Frag} {μ : Mu} {H : Hp} : ∀ {vs : List V} {ds : List D}, RepL K μ H vs ds → vs.length = ds.length
  | _, _, .nil => rfl
  | _, _, .cons _ t => by rw [List.length_cons, List.length_cons, RepL.length t]
theorem RepL.get {K : PySem.W.Frag} {μ : Mu} {H : Hp} : ∀ {vs : List V} {ds : List D} {i : Nat} {d : D}, RepL K μ H vs ds → ds[i]? = some d → ∃ v, vs[i]? = some v ∧ Rep K μ H v d
  | _, _, _, _, .nil, e => by simp at e
  | _, _, 0, _, .cons r _, e => by simp at e; subst e; exact ⟨_, rfl, r⟩
  | _, _, i + 1, d, .cons _ t, e => by
    obtain ⟨v, h1, h2⟩ := RepL.get (i := i) (d := d) t (by simpa using e)
    exact ⟨v, by simpa using h1, h2⟩
theorem RepL.getV {K : PySem.W.Frag} {μ : Mu} {H : Hp} : ∀ {vs : List V} {ds : List D} {i : Nat} {v : V}, RepL K μ H vs ds → vs[i]? = some v → ∃ d, ds[i]? = some d ∧ Rep K μ H v d
  | _, _, _, _, .nil, e => by simp at e
  | _, _, 0, _, .cons r _, e => by simp at e; subst e; exact ⟨_, rfl, r⟩
  | _, _, i + 1, d, .cons _ t, e => by
    obtain ⟨v, h1, h2⟩ := RepL.getV (i := i) (v := d) t (by simpa using e)
    exact ⟨v, by simpa using h1, h2⟩
theorem RepL.append {K : PySem.W.Frag} {μ : Mu} {H : Hp} : ∀ {vs ws : List V} {ds es : List D}, RepL K μ H vs ds → RepL K μ H ws es → RepL K μ H (vs ++ ws) (ds ++ es)
  | _, _, _, _, .nil, s => s
  | _, _, _, _, .cons r t, s => .cons r (RepL.append t s)
theorem RepL.set {K : PySem.W.Frag} {μ : Mu} {H : Hp} {v : V} {d : D} (r : Rep K μ H v d) : ∀ {vs : List V} {ds : List D} (i : Nat), RepL K μ H vs ds → RepL K μ H (vs.set i v) (ds.set i d)
  | _, _, _, .nil => .nil
  | _, _, 0, .cons _ t => .cons r t
  | _, _, i + 1, .cons q t => .cons q (RepL.set r i t)
theorem RepL.take {K : PySem.W.Frag} {μ : Mu} {H : Hp} : ∀ {vs : List V} {ds : List D} (n : Nat), RepL K μ H vs ds → RepL K μ H (vs.take n) (ds.take n)
  | _, _, 0, _ => .nil
  | _, _, _ + 1, .nil => .nil
  | _, _, n + 1, .cons r t => .cons r (RepL.take n t)
theorem RepL.drop {K : PySem.W.Frag} {μ : Mu} {H : Hp} : ∀ {vs : List V} {ds : List D} (n : Nat), RepL K μ H vs ds → RepL K μ H (vs.drop n) (ds.drop n)
  | _, _, 0, r => r
  | _, _, _ + 1, .nil => .nil
  | _, _, n + 1, .cons _ t => RepL.drop n t
theorem RepL.reverse {K : PySem.W.Frag} {μ : Mu} {H : Hp} : ∀ {vs : List V} {ds : List D}, RepL K μ H vs ds → RepL K μ H vs.reverse ds.reverse
  | _, _, .nil => .nil
  | _, _, .cons r t => by rw [List.reverse_cons, List.reverse_cons]; exact RepL.append (RepL.reverse t) (.cons r .nil)
/-- fields, values of a dict -/
def RepK {κ : Type} (K : PySem.W.Frag) (μ : Mu) (H : Hp) (xs : List (κ × V)) (ds : List (κ × D)) : Prop := xs.map (·.1) = ds.map (·.1) ∧ RepL K μ H (xs.map (·.2)) (ds.map (·.2))
theorem RepK.grow {κ : Type} {K : PySem.W.Frag} {μ μ' : Mu} {H H' : Hp} (g : Grow μ H μ' H') {xs : List (κ × V)} {ds : List (κ × D)} (h : RepK K μ H xs ds) : RepK K μ' H' xs ds := ⟨h.1, RepL.grow g _ _ h.2⟩

/-- the class of this name stands at c -/
def ClsAt (K : PySem.W.Frag) (x : Str) (c : Addr) : Prop := PySem.W.nsIn K mainGlobals x = some (some (.ref c))
theorem ClsAt.inj {K : PySem.W.Frag} {x : Str} {a b : Addr} (h : ClsAt K x a) (k : ClsAt K x b) : a = b := by
  unfold ClsAt at *
  rw [h] at k
  injection k with k
  injection k with k
  injection k
/-- keys and values of a dict with nested keys -/
structure EntsOk (K : PySem.W.Frag) (μ : Mu) (H : Hp) (ents : List Ent) (kvs : List (NestedKey × D)) : Prop where
  ks : ents.map (·.1) = kvs.map (·.1)
  vs : RepL K μ H (ents.map (·.2.2)) (kvs.map (·.2))
  at_ : ∀ e ∈ ents, Rep K μ H (.ref e.2.1) (nkD e.1)
  ok : ∀ e ∈ ents, nkOk e.1 = true ∧ e.1.depth ≤ 8
theorem EntsOk.grow {K : PySem.W.Frag} {μ μ' : Mu} {H H' : Hp} (g : Grow μ H μ' H') {ents : List Ent} {kvs : List (NestedKey × D)} (h : EntsOk K μ H ents kvs) : EntsOk K μ' H' ents kvs := ⟨h.ks, RepL.grow g _ _ h.vs, fun e he => Rep.grow g _ _ (h.at_ e he), h.ok⟩
def CellOk (K : PySem.W.Frag) (μ : Mu) (H : Hp) (a : Addr) : Cell → Prop
  | .lst ds => ∃ xs, H a = some (.lst xs) ∧ RepL K μ H xs ds
  | .dK kvs => ∃ xs, H a = some (.dK xs) ∧ RepK K μ H xs kvs
  | .dT kvs => ∃ xs, H a = some (.dT xs) ∧ RepK K μ H xs kvs
  | .ins C fs => ∃ c dx xs, ClsAt K C c ∧ H a = some (.ins c dx xs) ∧ RepK K μ H xs fs
  | .fK kvs => ∃ o xs, H a = some (.frz o (.dK xs)) ∧ RepK K μ H xs kvs
  | .dN kvs => ∃ ents, H a = some (.ext (NDict a ents)) ∧ EntsOk K μ H ents kvs
  | .fN kvs => ∃ o ents, H a = some (.frz o (.ext (NDict a ents))) ∧ EntsOk K μ H ents kvs
/-- what a cell's object is: one that may be written, or a locked dict -/
def Cel (o : HO) : Prop := Mut (some o) ∨ (∃ od xs, o = .frz od (.dK xs)) ∨ ∃ od φ, o = .frz od (.ext φ)
structure SimS (K : PySem.W.Frag) (μ : Mu) (H : Hp) (s : S) : Prop where
  len : μ.c.length = s.length
  nd : μ.c.Nodup
  hok : ∀ p ∈ μ.h, H p ≠ none
  dis : ∀ p ∈ μ.h, p ∉ μ.c
  cell : ∀ (n : Nat) (c : Cell), s[n]? = some c → ∃ a, μ.c[n]? = some a ∧ CellOk K μ H a c
structure SimV (K : PySem.W.Frag) (μ : Mu) (H : Hp) (σ : L2.St) (env : Env) : Prop where
  len : σ.length = env.length
  val : ∀ (i : Nat) (d : D), env[i]? = some (some d) → ∃ v, σ[i]? = some (some v) ∧ Rep K μ H v d
theorem SimV.grow {K : PySem.W.Frag} {μ μ' : Mu} {H H' : Hp} {σ : L2.St} {env : Env} (g : Grow μ H μ' H') (h : SimV K μ H σ env) : SimV K μ' H' σ env :=
  ⟨h.len, fun i d e => let ⟨v, h1, h2⟩ := h.val i d e; ⟨v, h1, Rep.grow g d v h2⟩⟩
theorem SimV.set {K : PySem.W.Frag} {μ : Mu} {H : Hp} {σ : L2.St} {env : Env} {v : V} {d : D} (h : SimV K μ H σ env) (r : Rep K μ H v d) (i : Nat) : SimV K μ H (σ.set i (some v)) (env.set i (some d)) := by
  refine ⟨by rw [List.length_set, List.length_set, h.len], fun j e hj => ?_⟩
  by_cases hij : i = j
  · subst hij
    by_cases hl : i < env.length
    · rw [List.getElem?_set_self hl] at hj
      cases hj
      exact ⟨v, by rw [List.getElem?_set_self (by rw [h.len]; exact hl)], r⟩
    · rw [List.getElem?_eq_none (by rw [List.length_set]; omega)] at hj
      cases hj
  · rw [List.getElem?_set_ne hij] at hj
    obtain ⟨w, h1, h2⟩ := h.val j e hj
    exact ⟨w, by rw [List.getElem?_set_ne hij]; exact h1, h2⟩
/-- what a cell is of its object: the kinds that may be written -/
theorem CellOk.mut {K : PySem.W.Frag} {μ : Mu} {H : Hp} {a : Addr} {c : Cell} (h : CellOk K μ H a c) : ∃ o, H a = some o ∧ Cel o := by
  cases c with
  | lst ds => obtain ⟨xs, e, _⟩ := h; exact ⟨_, e, .inl trivial⟩
  | dK kvs => obtain ⟨xs, e, _⟩ := h; exact ⟨_, e, .inl trivial⟩
  | dT kvs => obtain ⟨xs, e, _⟩ := h; exact ⟨_, e, .inl trivial⟩
  | ins C fs => obtain ⟨_, dx, xs, _, e, _⟩ := h; exact ⟨_, e, .inl trivial⟩
  | fK kvs => obtain ⟨o, xs, e, _⟩ := h; exact ⟨_, e, .inr (.inl ⟨o, xs, rfl⟩)⟩
  | dN kvs => obtain ⟨ents, e, _⟩ := h; exact ⟨_, e, .inl trivial⟩
  | fN kvs => obtain ⟨o, ents, e, _⟩ := h; exact ⟨_, e, .inr (.inr ⟨o, _, rfl⟩)⟩
theorem CellOk.grow {K : PySem.W.Frag} {μ μ' : Mu} {H H' : Hp} {a : Addr} {c : Cell} (g : Grow μ H μ' H') (e : H' a = H a) (h : CellOk K μ H a c) : CellOk K μ' H' a c := by
  cases c with
  | lst ds => obtain ⟨xs, q, r⟩ := h; exact ⟨xs, e.trans q, RepL.grow g _ _ r⟩
  | dK kvs => obtain ⟨xs, q, r⟩ := h; exact ⟨xs, e.trans q, r.grow g⟩
  | dT kvs => obtain ⟨xs, q, r⟩ := h; exact ⟨xs, e.trans q, r.grow g⟩
  | ins C fs => obtain ⟨c, dx, xs, hc, q, r⟩ := h; exact ⟨c, dx, xs, hc, e.trans q, r.grow g⟩
  | fK kvs => obtain ⟨o, xs, q, r⟩ := h; exact ⟨o, xs, e.trans q, r.grow g⟩
  | dN kvs => obtain ⟨ents, q, r⟩ := h; exact ⟨ents, e.trans q, r.grow g⟩
  | fN kvs => obtain ⟨o, ents, q, r⟩ := h; exact ⟨o, ents, e.trans q, r.grow g⟩
/-- the same heap, seen with other cells -/
structure Sh (μ μ' : Mu) (H : Hp) : Prop where
  at1 : ∀ {j : Nat} {b : Addr}, μ.c[j]? = some b → μ'.c[j]? = some b
  fr : ∀ a xs, H a = some (.lst xs) → a ∉ μ.c → a ∉ μ.h → a ∉ μ'.c ∧ a ∉ μ'.h
mutual
theorem Rep.sh {K : PySem.W.Frag} {μ μ' : Mu} {H : Hp} (k : Sh μ μ' H) : ∀ (d : D) (v : V), Rep K μ H v d → Rep K μ' H v d
  | .non, _, h => by cases h; exact .non
  | .bl b, _, h => by cases h; exact .bl b
  | .int i, _, h => by cases h; exact .int i
  | .str x, _, h => by cases h; exact .str x
  | .tup ds, _, h => by
    cases h with
    | tup hs hl => exact .tup hs (RepL.sh k ds _ hl)
  | .flst ds, _, h => by
    cases h with
    | flst hs hl => exact .flst hs (RepL.sh k ds _ hl)
  | .vls ds, _, h => by
    cases h with
    | vls hs hl =>
      have q := k.fr _ _ hs.at_ hs.nc hs.nh
      exact .vls ⟨hs.at_, q.1, q.2⟩ (RepL.sh k ds _ hl)
  | .ptr n, _, h => by
    cases h with
    | ptr e => exact .ptr (k.at1 e)
  | .rng lo hi c, _, h => by
    cases h with
    | rng h => exact .rng h
theorem RepL.sh {K : PySem.W.Frag} {μ μ' : Mu} {H : Hp} (k : Sh μ μ' H) : ∀ (ds : List D) (vs : List V), RepL K μ H vs ds → RepL K μ' H vs ds
  | [], _, h => by cases h; exact .nil
  | d :: ds, _, h => by
    cases h with
    | cons h1 h2 => exact .cons (Rep.sh k d _ h1) (RepL.sh k ds _ h2)
end
theorem CellOk.sh {K : PySem.W.Frag} {μ μ' : Mu} {H : Hp} {a : Addr} {c : Cell} (k : Sh μ μ' H) (h : CellOk K μ H a c) : CellOk K μ' H a c := by
  cases c with
  | lst ds => obtain ⟨xs, q, r⟩ := h; exact ⟨xs, q, RepL.sh k _ _ r⟩
  | dK kvs => obtain ⟨xs, q, r⟩ := h; exact ⟨xs, q, r.1, RepL.sh k _ _ r.2⟩
  | dT kvs => obtain ⟨xs, q, r⟩ := h; exact ⟨xs, q, r.1, RepL.sh k _ _ r.2⟩
  | ins C fs => obtain ⟨c, dx, xs, hc, q, r⟩ := h; exact ⟨c, dx, xs, hc, q, r.1, RepL.sh k _ _ r.2⟩
  | fK kvs => obtain ⟨o, xs, q, r⟩ := h; exact ⟨o, xs, q, r.1, RepL.sh k _ _ r.2⟩
  | dN kvs => obtain ⟨ents, q, r⟩ := h; exact ⟨ents, q, r.ks, RepL.sh k _ _ r.vs, fun e he => Rep.sh k _ _ (r.at_ e he), r.ok⟩
  | fN kvs => obtain ⟨o, ents, q, r⟩ := h; exact ⟨o, ents, q, r.ks, RepL.sh k _ _ r.vs, fun e he => Rep.sh k _ _ (r.at_ e he), r.ok⟩
theorem SimV.sh {K : PySem.W.Frag} {μ μ' : Mu} {H : Hp} {σ : L2.St} {env : Env} (k : Sh μ μ' H) (h : SimV K μ H σ env) : SimV K μ' H σ env :=
  ⟨h.len, fun i d e => let ⟨v, h1, h2⟩ := h.val i d e; ⟨v, h1, Rep.sh k d v h2⟩⟩
theorem SimS.mem {K : PySem.W.Frag} {μ : Mu} {H : Hp} {s : S} (h : SimS K μ H s) {a : Addr} (ha : a ∈ μ.c) : ∃ o, H a = some o ∧ Cel o := by
  obtain ⟨n, hn⟩ := List.getElem?_of_mem ha
  have hl : n < s.length := by rw [← h.len]; exact (List.getElem?_eq_some_iff.mp hn).1
  obtain ⟨b, hb, hc⟩ := h.cell n s[n] (List.getElem?_eq_getElem hl)
  rw [hn] at hb
  cases hb
  exact hc.mut
theorem upd_trk {H : Hp} {p : Addr} {o : HO} : ∀ a, upd H p o a = none → H a = none := fun a h => by
  by_cases e : a = p
  · rw [e, upd_same] at h
    cases h
  · rw [upd_ne e] at h
    exact h
/-- something that is no cell is laid -/
theorem grow_new {μ : Mu} {H : Hp} {p : Addr} {o : HO} (hp : H p = none) : Grow μ H μ (upd H p o) :=
  ⟨⟨[], (List.append_nil μ.c).symm⟩, ⟨[], rfl, fun _ h => nomatch h⟩, fun a xs h => by rw [upd_ne (ne_of_none h hp)]; exact h, fun a ob u h => by rw [upd_ne (ne_of_none h hp)]; exact h, fun a ob h _ => by rw [upd_ne (ne_of_none h hp)]; exact h, fun a h => .inl h, upd_trk⟩
theorem SimS.lay {K : PySem.W.Frag} {μ : Mu} {H : Hp} {s : S} {p : Addr} {o : HO} (h : SimS K μ H s) (hp : H p = none) : SimS K μ (upd H p o) s :=
  ⟨h.len, h.nd, fun q hq z => h.hok q hq (upd_trk q z), h.dis, fun n c e => by
    obtain ⟨a, h1, h2⟩ := h.cell n c e
    obtain ⟨u, hu, _⟩ := h2.mut
    exact ⟨a, h1, h2.grow (grow_new hp) (upd_ne (ne_of_none hu hp))⟩⟩
/-- a new cell -/
theorem grow_cell {μ : Mu} {H : Hp} {p : Addr} {o : HO} (hp : H p = none) : Grow μ H (μ.add p) (upd H p o) :=
  ⟨⟨[p], rfl⟩, ⟨[], rfl, fun _ h => nomatch h⟩, fun a xs h => by rw [upd_ne (ne_of_none h hp)]; exact h, fun a ob u h => by rw [upd_ne (ne_of_none h hp)]; exact h, fun a ob h _ => by rw [upd_ne (ne_of_none h hp)]; exact h, fun a h => by
    rcases List.mem_append.mp h with h | h
    · exact .inl h
    · rw [List.mem_singleton] at h
      rw [h]
      exact .inr hp, upd_trk⟩
theorem SimS.alloc {K : PySem.W.Frag} {μ : Mu} {H : Hp} {s : S} {p : Addr} {o : HO} {c : Cell} (h : SimS K μ H s) (hp : H p = none) (hc : CellOk K (μ.add p) (upd H p o) p c) : SimS K (μ.add p) (upd H p o) (s ++ [c]) := by
  have np : p ∉ μ.c := fun hm => by
    obtain ⟨u, hu, _⟩ := h.mem hm
    rw [hp] at hu
    cases hu
  refine ⟨by show (μ.c ++ [p]).length = _; rw [List.length_append, List.length_append, h.len]; rfl, ?_, fun q hq z => h.hok q hq (upd_trk q z), fun q hq hm => ?_, fun n c' e => ?_⟩
  · show (μ.c ++ [p]).Nodup
    rw [List.nodup_append]
    exact ⟨h.nd, List.nodup_cons.mpr ⟨List.not_mem_nil, List.nodup_nil⟩, fun a ha b hb => by
      rw [List.mem_singleton] at hb
      rw [hb]
      intro z
      rw [z] at ha
      exact np ha⟩
  · rcases List.mem_append.mp hm with hm | hm
    · exact h.dis q hq hm
    · rw [List.mem_singleton.mp hm] at hq
      exact h.hok p hq hp
  · by_cases hn : n < s.length
    · rw [List.getElem?_append_left hn] at e
      obtain ⟨a, h1, h2⟩ := h.cell n c' e
      obtain ⟨u, hu, _⟩ := h2.mut
      exact ⟨a, (grow_cell (o := o) hp).at h1, h2.grow (grow_cell hp) (upd_ne (ne_of_none hu hp))⟩
    · have hn2 : n = s.length := by
        have q := (List.getElem?_eq_some_iff.mp e).1
        rw [List.length_append] at q
        simp at q
        omega
      subst hn2
      rw [List.getElem?_append_right (Nat.le_refl _)] at e
      simp at e
      subst e
      refine ⟨p, ?_, hc⟩
      show (μ.c ++ [p])[s.length]? = _
      rw [← h.len, List.getElem?_append_right (Nat.le_refl _)]
      simp
theorem add_at {K : PySem.W.Frag} {μ : Mu} {H : Hp} {s : S} {p : Addr} (hs : SimS K μ H s) : (μ.add p).c[s.length]? = some p := by
  show (μ.c ++ [p])[s.length]? = _
  rw [← hs.len, List.getElem?_append_right (Nat.le_refl _)]
  simp
theorem SimS.new {K : PySem.W.Frag} {μ : Mu} {H : Hp} {s : S} {p : Addr} (h : SimS K μ H s) (hp : H p = none) : p ∉ μ.c ∧ p ∉ μ.h :=
  ⟨fun hm => (by
    obtain ⟨u, hu, _⟩ := h.mem hm
    rw [hp] at hu
    cases hu), fun hm => h.hok p hm hp⟩
/-- a cell is written -/
theorem grow_put {μ : Mu} {H : Hp} {a : Addr} {o : HO} (hm : Mut (H a)) (ha : a ∈ μ.c) : Grow μ H μ (upd H a o) :=
  ⟨⟨[], (List.append_nil μ.c).symm⟩, ⟨[], rfl, fun _ h => nomatch h⟩, fun b xs h => by
    rw [upd_ne fun z => by rw [← z, h] at hm; exact hm]
    exact h, fun b ob u h => by
    rw [upd_ne fun z => by rw [← z, h] at hm; exact hm]
    exact h, fun b ob h n => by
    rw [upd_ne fun z => by rw [z] at n; exact n ha]
    exact h, fun b h => .inl h, upd_trk⟩
theorem SimS.put {K : PySem.W.Frag} {μ : Mu} {H : Hp} {s : S} {a : Addr} {n : Nat} {o : HO} {c : Cell} (h : SimS K μ H s) (hn : μ.c[n]? = some a) (hm : Mut (H a)) (hc : CellOk K μ (upd H a o) a c) : SimS K μ (upd H a o) (s.set n c) := by
  refine ⟨by rw [List.length_set]; exact h.len, h.nd, fun q hq z => h.hok q hq (upd_trk q z), h.dis, fun j c' e => ?_⟩
  by_cases hj : n = j
  · subst hj
    have hl : n < s.length := by rw [← h.len]; exact (List.getElem?_eq_some_iff.mp hn).1
    rw [List.getElem?_set_self hl] at e
    cases e
    exact ⟨a, hn, hc⟩
  · rw [List.getElem?_set_ne hj] at e
    obtain ⟨b, h1, h2⟩ := h.cell j c' e
    refine ⟨b, h1, h2.grow (grow_put hm (List.mem_of_getElem? hn)) (upd_ne fun z => hj ?_)⟩
    subst z
    exact nd_ix h.nd hn h1

/-! ### a list beside the store, hidden while it is made -/
theorem sh_hide {μ : Mu} {H : Hp} {p : Addr} (hp : H p = none) : Sh μ (μ.hide p) H := ⟨fun h => h, fun a xs h n1 n2 => ⟨n1, fun z => by
  rcases List.mem_cons.mp z with z | z
  · rw [z, hp] at h
    cases h
  · exact n2 z⟩⟩
theorem grow_hide {μ : Mu} {H : Hp} {p : Addr} {o : HO} (hp : H p = none) : Grow μ H (μ.hide p) (upd H p o) :=
  ⟨⟨[], (List.append_nil μ.c).symm⟩, ⟨[p], rfl, fun q hq => by rw [List.mem_singleton.mp hq]; exact hp⟩, fun a xs h => by rw [upd_ne (ne_of_none h hp)]; exact h, fun a ob u h => by rw [upd_ne (ne_of_none h hp)]; exact h, fun a ob h _ => by rw [upd_ne (ne_of_none h hp)]; exact h, fun a h => .inl h, upd_trk⟩
/-- hidden and laid at once -/
theorem SimS.hide {K : PySem.W.Frag} {μ : Mu} {H : Hp} {s : S} {p : Addr} {o : HO} (h : SimS K μ H s) (hp : H p = none) : SimS K (μ.hide p) (upd H p o) s := by
  refine ⟨h.len, h.nd, fun q hq z => ?_, fun q hq => ?_, fun n c e => ?_⟩
  · rcases List.mem_cons.mp hq with e | hq
    · rw [e, upd_same] at z
      cases z
    · exact h.hok q hq (upd_trk q z)
  · rcases List.mem_cons.mp hq with e | hq
    · rw [e]
      exact (h.new hp).1
    · exact h.dis q hq
  · obtain ⟨a, h1, h2⟩ := h.cell n c e
    obtain ⟨u, hu, _⟩ := h2.mut
    exact ⟨a, h1, (h2.sh (sh_hide hp)).grow (grow_new hp) (upd_ne (ne_of_none hu hp))⟩
theorem sh_open {c u h : List Addr} {H : Hp} {p : Addr} : Sh ⟨c, u ++ p :: h⟩ ⟨c, u ++ h⟩ H := ⟨fun h => h, fun a xs h n1 n2 => ⟨n1, fun z => n2 (by
  rcases List.mem_append.mp z with z | z
  · exact List.mem_append_left _ z
  · exact List.mem_append_right _ (List.mem_cons_of_mem _ z))⟩⟩
theorem sh_join {c u h : List Addr} {H : Hp} {p : Addr} : Sh ⟨c, u ++ p :: h⟩ ⟨c ++ [p], u ++ h⟩ H := ⟨fun q => by
  show (c ++ [p])[_]? = _
  rw [List.getElem?_append_left (List.getElem?_eq_some_iff.mp q).1]
  exact q, fun a xs _ n1 n2 => ⟨fun z => by
  rcases List.mem_append.mp z with z | z
  · exact n1 z
  · rw [List.mem_singleton] at z
    exact n2 (by rw [z]; simp), fun z => n2 (by
  rcases List.mem_append.mp z with z | z
  · exact List.mem_append_left _ z
  · exact List.mem_append_right _ (List.mem_cons_of_mem _ z))⟩⟩
theorem SimS.open {K : PySem.W.Frag} {c u h : List Addr} {H : Hp} {s : S} {p : Addr} (k : SimS K ⟨c, u ++ p :: h⟩ H s) : SimS K ⟨c, u ++ h⟩ H s :=
  have m : ∀ {q : Addr}, q ∈ u ++ h → q ∈ u ++ p :: h := fun z => by
    rcases List.mem_append.mp z with z | z
    · exact List.mem_append_left _ z
    · exact List.mem_append_right _ (List.mem_cons_of_mem _ z)
  ⟨k.len, k.nd, fun q hq => k.hok q (m hq), fun q hq => k.dis q (m hq), fun n x e => by
    obtain ⟨a, h1, h2⟩ := k.cell n x e
    exact ⟨a, h1, h2.sh sh_open⟩⟩
/-- it joins the store -/
theorem SimS.join {K : PySem.W.Frag} {c u h : List Addr} {H : Hp} {s : S} {p : Addr} {x : Cell} (k : SimS K ⟨c, u ++ p :: h⟩ H s) (np : p ∉ u ++ h) (hc : CellOk K ⟨c ++ [p], u ++ h⟩ H p x) : SimS K ⟨c ++ [p], u ++ h⟩ H (s ++ [x]) := by
  have m : ∀ {q : Addr}, q ∈ u ++ h → q ∈ u ++ p :: h := fun z => by
    rcases List.mem_append.mp z with z | z
    · exact List.mem_append_left _ z
    · exact List.mem_append_right _ (List.mem_cons_of_mem _ z)
  have nc : p ∉ c := k.dis p (by simp)
  refine ⟨by show (c ++ [p]).length = _; have := k.len; rw [List.length_append, List.length_append]; simp at this ⊢; exact this, ?_, fun q hq => k.hok q (m hq), fun q hq hm => ?_, fun n c' e => ?_⟩
  · show (c ++ [p]).Nodup
    rw [List.nodup_append]
    exact ⟨k.nd, List.nodup_cons.mpr ⟨List.not_mem_nil, List.nodup_nil⟩, fun a ha b hb => by
      rw [List.mem_singleton] at hb
      rw [hb]
      intro z
      rw [z] at ha
      exact nc ha⟩
  · rcases List.mem_append.mp hm with hm | hm
    · exact k.dis q (m hq) hm
    · rw [List.mem_singleton.mp hm] at hq
      exact np hq
  · by_cases hn : n < s.length
    · rw [List.getElem?_append_left hn] at e
      obtain ⟨a, h1, h2⟩ := k.cell n c' e
      exact ⟨a, (sh_join (H := H)).at1 h1, h2.sh sh_join⟩
    · have hn2 : n = s.length := by
        have q := (List.getElem?_eq_some_iff.mp e).1
        rw [List.length_append] at q
        simp at q
        omega
      subst hn2
      rw [List.getElem?_append_right (Nat.le_refl _)] at e
      simp at e
      subst e
      refine ⟨p, ?_, hc⟩
      have e1 : c.length = s.length := k.len
      show (c ++ [p])[s.length]? = _
      rw [← e1, List.getElem?_append_right (Nat.le_refl _)]
      simp

/-! ### what is wanted behind a mirror's answer -/
section
variable (K : PySem.W.Frag) (E : XK)
def Post {α : Type} (μ : Mu) (H : Hp) (r : R α) (q : α → S → Mu → Hp → Prop) : Prop := match r with
  | .stuck => False
  | .ok a s' => ∀ μ' H', Grow μ H μ' H' → SimS K μ' H' s' → q a s' μ' H'
  | .exc c s' => ∀ C, ClsAt K c C → ∀ μ' H', Grow μ H μ' H' → SimS K μ' H' s' → E (.ref C) none H'
end
section
variable {K : PySem.W.Frag} {E : XK} {α β : Type} {μ μ1 : Mu} {H H1 : Hp}
theorem Post.mono {r : R α} {q q' : α → S → Mu → Hp → Prop} (h : Post K E μ H r q) (f : ∀ a s' μ' H', Grow μ H μ' H' → SimS K μ' H' s' → q a s' μ' H' → q' a s' μ' H') : Post K E μ H r q' := by
  cases r with
  | stuck => exact h
  | ok a s' => exact fun μ' H' g hs => f a s' μ' H' g hs (h μ' H' g hs)
  | exc c s' => exact h
theorem Post.later {r : R α} {q : α → S → Mu → Hp → Prop} (g : Grow μ H μ1 H1) (h : Post K E μ H r q) : Post K E μ1 H1 r q := by
  cases r with
  | stuck => exact h
  | ok a s' => exact fun μ' H' g' hs => h μ' H' (g.trans g') hs
  | exc c s' => exact fun C hC μ' H' g' hs => h C hC μ' H' (g.trans g') hs
theorem Post.bind {m : M α} {f : α → M β} {s : S} {q : β → S → Mu → Hp → Prop} (h : Post K E μ H ((m >>= f) s) q) : Post K E μ H (m s) (fun a s1 μ1 H1 => Post K E μ1 H1 (f a s1) q) := by
  rw [bind_run] at h
  cases e : m s with
  | stuck => rw [e] at h; exact h
  | ok a s' =>
    rw [e] at h
    exact fun μ' H' g hs => Post.later g h
  | exc c s' => rw [e] at h; exact h
theorem Post.now {a : α} {s : S} {q : α → S → Mu → Hp → Prop} (h : Post K E μ H (.ok a s) q) (hs : SimS K μ H s) : q a s μ H := h μ H (Grow.refl μ H) hs
end
def okD (K : PySem.W.Frag) (Q : VK) (d : D) (_ : S) (μ : Mu) (H : Hp) : Prop := ∀ v, Rep K μ H v d → Q v H
def okL (K : PySem.W.Frag) (Q : List V → Hp → Prop) (ds : List D) (_ : S) (μ : Mu) (H : Hp) : Prop := ∀ vs, RepL K μ H vs ds → Q vs H
def okB (Q : Bool → Hp → Prop) (b : Bool) (_ : S) (_ : Mu) (H : Hp) : Prop := Q b H
inductive Out where
  | nx (env : Env) | rt (d : D) | bk (env : Env) | ct (env : Env)
def okO (K : PySem.W.Frag) (Dd : Ends) (o : Out) (_ : S) (μ : Mu) (H : Hp) : Prop := match o with
  | .nx env => ∀ σ, SimV K μ H σ env → Dd.nx σ H
  | .rt d => ∀ v, Rep K μ H v d → Dd.rt v H
  | .bk env => ∀ σ, SimV K μ H σ env → Dd.bk σ H
  | .ct env => ∀ σ, SimV K μ H σ env → Dd.ct σ H

def TEof (K : PySem.W.Frag) (E : XK) (m : Env → M D) : TE := fun σ H Q => ∃ μ env s, SimV K μ H σ env ∧ SimS K μ H s ∧ Post K E μ H (m env s) (okD K Q)
def TTof (K : PySem.W.Frag) (E : XK) (m : Env → M Bool) : TT := fun σ H Q => ∃ μ env s, SimV K μ H σ env ∧ SimS K μ H s ∧ Post K E μ H (m env s) (okB Q)
def TAof (K : PySem.W.Frag) (E : XK) (m : Env → M (List D)) : TA := fun σ H Q => ∃ μ env s, SimV K μ H σ env ∧ SimS K μ H s ∧ Post K E μ H (m env s) (okL K Q)
def TSof (K : PySem.W.Frag) (E : XK) (m : Env → M Out) : TS := fun Dd σ H => ∃ μ env s, SimV K μ H σ env ∧ SimS K μ H s ∧ Post K E μ H (m env s) (okO K Dd)
def SE (X : Cx) (E : XK) (e : Expr) (m : Env → M D) : Prop := PE X e (TEof X.K E m)
def ST (X : Cx) (E : XK) (e : Expr) (m : Env → M Bool) : Prop := PT X e (TTof X.K E m)
def SW (X : Cx) (E : XK) (e : Expr) (m : Env → M Bool) : Prop := PW X e (TTof X.K E m)
def SA (X : Cx) (E : XK) (es : List Expr) (m : Env → M (List D)) : Prop := PA X es (TAof X.K E m)
def SS (X : Cx) (E : XK) (st : Stmt) (m : Env → M Out) : Prop := PS X st (TSof X.K E m)
def SSs (X : Cx) (E : XK) (sts : List Stmt) (m : Env → M Out) : Prop := PSs X sts (TSof X.K E m)

theorem PE.imp {X : Cx} {e : Expr} {t t' : TE} (h : PE X e t) (f : ∀ σ H Q, t' σ H Q → t σ H Q) : PE X e t' := ⟨fun pins s σ H Q I q => h.run pins s σ H Q I (f σ H Q q)⟩
theorem PT.imp {X : Cx} {e : Expr} {t t' : TT} (h : PT X e t) (f : ∀ σ H Q, t' σ H Q → t σ H Q) : PT X e t' := ⟨fun pins s σ H Q I q => h.run pins s σ H Q I (f σ H Q q)⟩
theorem PW.imp {X : Cx} {e : Expr} {t t' : TT} (h : PW X e t) (f : ∀ σ H Q, t' σ H Q → t σ H Q) : PW X e t' := ⟨fun wh pins s σ H Q I q => h.run wh pins s σ H Q I (f σ H Q q)⟩
theorem PA.imp {X : Cx} {es : List Expr} {t t' : TA} (h : PA X es t) (f : ∀ σ H Q, t' σ H Q → t σ H Q) : PA X es t' := ⟨fun p pins s σ H Q I q => h.run p pins s σ H Q I (f σ H Q q)⟩
theorem PS.imp {X : Cx} {st : Stmt} {t t' : TS} (h : PS X st t) (f : ∀ Dd σ H, t' Dd σ H → t Dd σ H) : PS X st t' := ⟨fun pins s σ H Dd I q => h.run pins s σ H Dd I (f Dd σ H q)⟩
theorem PSs.imp {X : Cx} {st : List Stmt} {t t' : TS} (h : PSs X st t) (f : ∀ Dd σ H, t' Dd σ H → t Dd σ H) : PSs X st t' := ⟨fun pins s σ H Dd I q => h.run pins s σ H Dd I (f Dd σ H q)⟩
end PL

/-! PL2: operators, comparisons, calls of built-ins: what they are of data. -/
namespace PL
open PySem PySem.Spec PyProof.Rows L2

/-! ### readings by a function of data -/
section
variable (K : PySem.W.Frag) (E : XK)
def R2of (f : D → D → M D) : R2 := fun x y H Q => ∃ μ s dx dy, SimS K μ H s ∧ Rep K μ H x dx ∧ Rep K μ H y dy ∧ Post K E μ H (f dx dy s) (okD K Q)
def R1of (f : D → M D) : V → Hp → VK → Prop := fun x H Q => ∃ μ s dx, SimS K μ H s ∧ Rep K μ H x dx ∧ Post K E μ H (f dx s) (okD K Q)
def RLof (f : List D → M D) : List V → Hp → VK → Prop := fun xs H Q => ∃ μ s ds, SimS K μ H s ∧ RepL K μ H xs ds ∧ Post K E μ H (f ds s) (okD K Q)
def RMof (f : D → List D → M D) : V → List V → Hp → VK → Prop := fun x xs H Q => ∃ μ s dx ds, SimS K μ H s ∧ Rep K μ H x dx ∧ RepL K μ H xs ds ∧ Post K E μ H (f dx ds s) (okD K Q)
def RBof (f : D → M Bool) : V → Hp → (Bool → Hp → Prop) → Prop := fun x H Q => ∃ μ s dx, SimS K μ H s ∧ Rep K μ H x dx ∧ Post K E μ H (f dx s) (okB Q)
end

/-! ### sizes -/
def Bt (n : Nat) (i : Int) : Prop := i.natAbs < 2 ^ n
theorem Bt.mono {m n : Nat} {i : Int} (h : Bt m i) (l : m ≤ n) : Bt n i := Nat.lt_of_lt_of_le h (Nat.pow_le_pow_right (by decide) l)
theorem Bt.mul {m n : Nat} {i j : Int} (h : Bt m i) (k : Bt n j) : Bt (m + n) (i * j) := by
  unfold Bt at *
  rw [Int.natAbs_mul, Nat.pow_add]
  exact Nat.mul_lt_mul'' h k
theorem Bt.add {n : Nat} {i j : Int} (h : Bt n i) (k : Bt n j) : Bt (n + 1) (i + j) := by
  unfold Bt at *
  have := Int.natAbs_add_le i j
  rw [Nat.pow_succ]
  omega
theorem Bt.sub {n : Nat} {i j : Int} (h : Bt n i) (k : Bt n j) : Bt (n + 1) (i - j) := by
  unfold Bt at *
  have := Int.natAbs_sub_le i j
  rw [Nat.pow_succ]
  omega
theorem Bt.neg {n : Nat} {i : Int} (h : Bt n i) : Bt n (-i) := by
  unfold Bt at *
  rw [Int.natAbs_neg]
  exact h
theorem Bt.le {n : Nat} {i j : Int} (h : Bt n i) (l : j.natAbs ≤ i.natAbs) : Bt n j := Nat.lt_of_le_of_lt l h
structure MulOk (i j : Int) : Prop where
  ok : (-18446744073709551616 < i ∧ i < 18446744073709551616) ∨ (-18446744073709551616 < j ∧ j < 18446744073709551616) ∨ (Bt 400000 i ∧ Bt 400000 j)
structure DivOk (j : Int) : Prop where
  ok : Bt 9000 j
structure PowOk (i j : Int) : Prop where
  ok : (0 ≤ j ∧ j ≤ 1000) ∧ (-18446744073709551616 < i ∧ i < 18446744073709551616)
noncomputable instance decMulOk (i j : Int) : Decidable (MulOk i j) := Classical.propDecidable _
noncomputable instance decDivOk (j : Int) : Decidable (DivOk j) := Classical.propDecidable _
noncomputable instance decPowOk (i j : Int) : Decidable (PowOk i j) := Classical.propDecidable _
theorem mulOk_b {i j : Int} (h : Bt 400000 i) (k : Bt 400000 j) : MulOk i j := ⟨.inr (.inr ⟨h, k⟩)⟩
theorem mulOk_l {i j : Int} (h : -18446744073709551616 < i) (k : i < 18446744073709551616) : MulOk i j := ⟨.inl ⟨h, k⟩⟩
theorem mulOk_r {i j : Int} (h : -18446744073709551616 < j) (k : j < 18446744073709551616) : MulOk i j := ⟨.inr (.inl ⟨h, k⟩)⟩

/-! ### operators -/
def allocC (c : Cell) : M D := fun s => .ok (.ptr s.length) (s ++ [c])
/-- a list of one's own -/
def lcD (s : S) (x : D) : Option (List D) := match x with
  | .vls ds => some ds
  | .ptr n => match s[n]? with
    | some (.lst ds) => some ds
    | _ => none
  | _ => none
def catD (x y : D) : M D := fun s => match lcD s x, lcD s y with
  | some a, some b => if a.length + b.length ≤ 100000 then .ok (.vls (a ++ b)) s else .stuck
  | _, _ => .stuck
def addD : D → D → M D
  | .int i, .int j => pure (.int (i + j))
  | .int i, .bl k => pure (.int (i + b2i k))
  | .str a, .str b => if a.length + b.length ≤ 100000 then pure (.str (a ++ b)) else stuck
  | .tup a, .tup b => if a.length + b.length ≤ 100000 then pure (.tup (a ++ b)) else stuck
  | x, y => catD x y
def subD : D → D → M D
  | .int i, .int j => pure (.int (i - j))
  | _, _ => stuck
noncomputable def mulD : D → D → M D
  | .int i, .int j => if MulOk i j then pure (.int (i * j)) else stuck
  | _, _ => stuck
noncomputable def fdivD : D → D → M D
  | .int i, .int j => if DivOk j then (if j = 0 then stuck else pure (.int (if 0 < j then i / j else i.fdiv j))) else stuck
  | _, _ => stuck
def modD : D → D → M D
  | .int i, .int j => if j = 0 then stuck else pure (.int (if 0 < j then i % j else i.fmod j))
  | _, _ => stuck
noncomputable def powD : D → D → M D
  | .int i, .int j => if PowOk i j then pure (.int (i ^ j.toNat)) else stuck
  | _, _ => stuck
def negD : D → M D
  | .int i => pure (.int (-i))
  | _ => stuck

section
variable {X : Cx} {E : XK}
theorem sz_ok {n : Nat} (h : n ≤ 100000) : n ≤ sizeLine := Nat.le_trans h (by decide)
/-- a list laid -/
theorem post_alloc {K : PySem.W.Frag} {μ : Mu} {H : Hp} {s : S} {ds : List D} {xs : List V} {Q : VK} (hs : SimS K μ H s) (r : RepL K μ H xs ds) (h : Post K E μ H (allocC (.lst ds) s) (okD K Q)) : ∀ p, H p = none → Q (.ref p) (upd H p (.lst xs)) := fun p hp => by
  have hs2 : SimS K (μ.add p) (upd H p (.lst xs)) (s ++ [.lst ds]) := hs.alloc hp ⟨xs, upd_same, RepL.grow (grow_cell hp) _ _ r⟩
  exact h _ _ (grow_cell hp) hs2 (.ref p) (.ptr (add_at hs))
/-- a list laid beside the store -/
theorem post_vls {K : PySem.W.Frag} {μ : Mu} {H : Hp} {s : S} {ds : List D} {xs : List V} {Q : VK} (hs : SimS K μ H s) (r : RepL K μ H xs ds) (h : Post K E μ H (.ok (.vls ds) s) (okD K Q)) : ∀ p, H p = none → Q (.ref p) (upd H p (.lst xs)) := fun p hp =>
  h _ _ (grow_new hp) (hs.lay hp) (.ref p) (.vls ⟨upd_same, (hs.new hp).1, (hs.new hp).2⟩ (RepL.grow (grow_new hp) _ _ r))
/-- a tuple laid -/
theorem post_tup {K : PySem.W.Frag} {μ : Mu} {H : Hp} {s : S} {ds : List D} {xs : List V} {Q : VK} (hs : SimS K μ H s) (r : RepL K μ H xs ds) (h : Post K E μ H (.ok (.tup ds) s) (okD K Q)) : ∀ p, H p = none → Q (.ref p) (upd H p (.tup xs)) := fun p hp =>
  h _ _ (grow_new hp) (hs.lay hp) (.ref p) (.tup (SqT.of upd_same) (RepL.grow (grow_new hp) _ _ r))
theorem post_val {K : PySem.W.Frag} {μ : Mu} {H : Hp} {s : S} {d : D} {v : V} {Q : VK} (hs : SimS K μ H s) (h : Post K E μ H (.ok d s) (okD K Q)) (r : Rep K μ H v d) : Q v H := Post.now h hs v r
theorem post_bl {K : PySem.W.Frag} {μ : Mu} {H : Hp} {s : S} {d : Bool} {Q : VK} (hs : SimS K μ H s) (h : Post K E μ H (.ok (.bl d) s) (okD K Q)) : Q (.bl d) H := Post.now h hs _ (.bl d)
theorem post_int {K : PySem.W.Frag} {μ : Mu} {H : Hp} {s : S} {d : Int} {Q : VK} (hs : SimS K μ H s) (h : Post K E μ H (.ok (.int d) s) (okD K Q)) : Q (.int d) H := Post.now h hs _ (.int d)
theorem post_str {K : PySem.W.Frag} {μ : Mu} {H : Hp} {s : S} {d : Str} {Q : VK} (hs : SimS K μ H s) (h : Post K E μ H (.ok (.str d) s) (okD K Q)) : Q (.str d) H := Post.now h hs _ (.str d)
/-- a cell by its pointer -/
theorem cell_lst {K : PySem.W.Frag} {μ : Mu} {H : Hp} {s : S} {n : Nat} {a : Addr} {ds : List D} (hs : SimS K μ H s) (ha : μ.c[n]? = some a) (e : s[n]? = some (.lst ds)) : ∃ xs, H a = some (.lst xs) ∧ RepL K μ H xs ds := by
  obtain ⟨b, hb, hc⟩ := hs.cell n _ e
  rw [ha] at hb
  cases hb
  exact hc

theorem lcD_rep {K : PySem.W.Frag} {μ : Mu} {H : Hp} {s : S} {x : D} {v : V} {ds : List D} (hs : SimS K μ H s) (r : Rep K μ H v x) (e : lcD s x = some ds) : ∃ a xs, v = .ref a ∧ H a = some (.lst xs) ∧ RepL K μ H xs ds := by
  cases r with
  | @vls a xs es h l =>
    cases e
    exact ⟨a, xs, rfl, h.at_, l⟩
  | @ptr a n h =>
    unfold lcD at e
    simp only [] at e
    split at e
    · rename_i es hd
      cases e
      obtain ⟨xs, h1, l⟩ := cell_lst hs h hd
      exact ⟨a, xs, rfl, h1, l⟩
    · cases e
  | _ => cases e
theorem op_addD : OpR X (binaryOp .Add) (R2of X.K E addD) := by
  intro pins s σ H x y v u Q I rx ry h
  obtain ⟨μ, st, dx, dy, hs, hx, hy, post⟩ := h
  unfold addD at post
  split at post
  · rename_i i j
    cases hx
    cases hy
    rw [pure_run] at post
    exact op_add pins s σ H _ _ v u Q I rx ry ⟨i, j, rfl, rfl, post_int hs post⟩
  · rename_i i k
    cases hx
    cases hy
    rw [pure_run] at post
    exact op_add_ib pins s σ H _ _ v u Q I rx ry ⟨i, k, rfl, rfl, post_int hs post⟩
  · rename_i a b
    cases hx
    cases hy
    split at post
    · rename_i hl
      rw [pure_run] at post
      exact op_add_str pins s σ H _ _ v u Q I rx ry ⟨a, b, rfl, rfl, sz_ok hl, post_str hs post⟩
    · exact (show False from post).elim
  · rename_i ds es
    cases hx with
    | @tup a xs _ ha la =>
      cases hy with
      | @tup b ys _ hb lb =>
        split at post
        · rename_i hl
          rw [pure_run] at post
          have cat := la.append lb
          refine op_catA pins s σ H _ _ v u Q I rx ry ⟨a, b, xs, ys, rfl, rfl, ha, hb, by rw [la.length, lb.length]; exact sz_ok hl, fun e => ?_, fun _ e => ?_, fun _ _ => post_tup hs cat post⟩
          · subst e
            exact post_val hs post (.tup hb cat)
          · subst e
            rw [List.append_nil] at cat
            exact post_val hs post (.tup ha cat)
        · exact (show False from post).elim
  · unfold catD at post
    split at post
    · rename_i da db e1 e2
      obtain ⟨a, xs, rfl, h1, r1⟩ := lcD_rep hs hx e1
      obtain ⟨b, ys, rfl, h2, r2⟩ := lcD_rep hs hy e2
      split at post
      · rename_i hl
        exact op_cat pins s σ H _ _ v u Q I rx ry ⟨_, _, xs, ys, rfl, rfl, h1, h2, by rw [r1.length, r2.length]; exact sz_ok hl, post_vls hs (r1.append r2) post⟩
      · exact (show False from post).elim
    · exact (show False from post).elim
theorem op_subD : OpR X (binaryOp .Sub) (R2of X.K E subD) := by
  intro pins s σ H x y v u Q I rx ry h
  obtain ⟨μ, st, dx, dy, hs, hx, hy, post⟩ := h
  unfold subD at post
  split at post
  · rename_i i j
    cases hx
    cases hy
    rw [pure_run] at post
    exact op_sub pins s σ H _ _ v u Q I rx ry ⟨i, j, rfl, rfl, post_int hs post⟩
  · rename_i h1
    cases hx <;> cases hy <;> first | exact (show False from post).elim | exact (h1 _ _ rfl rfl).elim
theorem op_mulD : OpR X (binaryOp .Mult) (R2of X.K E mulD) := by
  intro pins s σ H x y v u Q I rx ry h
  obtain ⟨μ, st, dx, dy, hs, hx, hy, post⟩ := h
  unfold mulD at post
  split at post
  · rename_i i j
    cases hx
    cases hy
    split at post
    · rename_i hm
      rw [pure_run] at post
      rcases hm.ok with hm | hm | ⟨h1, h2⟩
      · exact op_mul pins s σ H _ _ v u Q I rx ry ⟨i, j, rfl, rfl, .inl (by omega), post_int hs post⟩
      · exact op_mul pins s σ H _ _ v u Q I rx ry ⟨i, j, rfl, rfl, .inr (by omega), post_int hs post⟩
      · exact op_mulW pins s σ H _ _ v u Q I rx ry ⟨i, j, rfl, rfl, wide_mul h1 h2 (by decide) (by decide) (by decide), post_int hs post⟩
    · exact (show False from post).elim
  · rename_i h1
    cases hx <;> cases hy <;> first | exact (show False from post).elim | exact (h1 _ _ rfl rfl).elim
theorem op_fdivD : OpR X (binaryOp .FloorDiv) (R2of X.K E fdivD) := by
  intro pins s σ H x y v u Q I rx ry h
  obtain ⟨μ, st, dx, dy, hs, hx, hy, post⟩ := h
  unfold fdivD at post
  split at post
  · rename_i i j
    cases hx
    cases hy
    split at post
    · rename_i hd
      split at post
      · exact (show False from post).elim
      · rename_i hj
        rw [pure_run] at post
        have q := post_int hs post
        have h9 : j.natAbs.log2 < 9000 := PySem.Flt.log2_lt_of (by decide) hd.ok
        have g : OpR X (binaryOp .FloorDiv) (rI (fun _ j => j ≠ 0 ∧ j.natAbs.log2 < 9000) fun i j => .int (i.fdiv j)) := opI fun _ _ _ _ _ _ _ hc q => floordiv_int hc.1 q (.inl (PyProof.noPylong_of_log2 hc.2))
        refine g pins s σ H _ _ v u Q I rx ry ⟨i, j, rfl, rfl, ⟨hj, h9⟩, ?_⟩
        by_cases hp : 0 < j
        · rw [if_pos hp] at q
          show Q (.int (i.fdiv j)) H
          rw [Int.fdiv_eq_ediv_of_nonneg i (by omega)]
          exact q
        · rw [if_neg hp] at q
          exact q
    · exact (show False from post).elim
  · rename_i h1
    cases hx <;> cases hy <;> first | exact (show False from post).elim | exact (h1 _ _ rfl rfl).elim
theorem op_modD : OpR X (binaryOp .Mod) (R2of X.K E modD) := by
  intro pins s σ H x y v u Q I rx ry h
  obtain ⟨μ, st, dx, dy, hs, hx, hy, post⟩ := h
  unfold modD at post
  split at post
  · rename_i i j
    cases hx
    cases hy
    split at post
    · exact (show False from post).elim
    · rename_i hj
      rw [pure_run] at post
      have q := post_int hs post
      refine op_modN pins s σ H _ _ v u Q I rx ry ⟨i, j, rfl, rfl, hj, ?_⟩
      by_cases hp : 0 < j
      · rw [if_pos hp] at q
        show Q (.int (i.fmod j)) H
        rw [Int.fmod_eq_emod_of_nonneg i (by omega)]
        exact q
      · rw [if_neg hp] at q
        exact q
  · rename_i h1
    cases hx <;> cases hy <;> first | exact (show False from post).elim | exact (h1 _ _ rfl rfl).elim
theorem op_powD : OpR X (binaryOp .Pow) (R2of X.K E powD) := by
  intro pins s σ H x y v u Q I rx ry h
  obtain ⟨μ, st, dx, dy, hs, hx, hy, post⟩ := h
  unfold powD at post
  split at post
  · rename_i i j
    cases hx
    cases hy
    split at post
    · rename_i hc
      have hc := hc.ok
      rw [pure_run] at post
      exact op_pow pins s σ H _ _ v u Q I rx ry ⟨i, j, rfl, rfl, ⟨hc.1.1, by omega, by omega⟩, post_int hs post⟩
    · exact (show False from post).elim
  · rename_i h1
    cases hx <;> cases hy <;> first | exact (show False from post).elim | exact (h1 _ _ rfl rfl).elim
theorem un_negD : UnR X (unaryOp .USub) (R1of X.K E negD) := by
  intro pins s σ H x v Q I rx h
  obtain ⟨μ, st, dx, hs, hx, post⟩ := h
  unfold negD at post
  split at post
  · rename_i i
    cases hx
    rw [pure_run] at post
    exact un_neg pins s σ H _ v Q I rx ⟨i, rfl, post_int hs post⟩
  · rename_i h1
    cases hx <;> first | exact (show False from post).elim | exact (h1 _ rfl).elim
end

/-! ### comparisons -/
def dInts : List D → Option (List Int)
  | [] => some []
  | .int i :: r => (dInts r).map (i :: ·)
  | _ :: _ => none
theorem dInts_rep {K : PySem.W.Frag} {μ : Mu} {H : Hp} : ∀ {ds : List D} {xs : List V} {ns : List Int}, dInts ds = some ns → RepL K μ H xs ds → xs = ns.map V.int
  | [], _, ns, e, .nil => by
    unfold dInts at e
    cases e
    rfl
  | .int i :: r, _, ns, e, .cons h t => by
    unfold dInts at e
    cases q : dInts r with
    | none => rw [q] at e; cases e
    | some ms =>
      rw [q] at e
      cases e
      cases h
      rw [dInts_rep q t]
      rfl
  | .non :: r, _, ns, e, _ => by unfold dInts at e; cases e
  | .bl _ :: r, _, ns, e, _ => by unfold dInts at e; cases e
  | .str _ :: r, _, ns, e, _ => by unfold dInts at e; cases e
  | .tup _ :: r, _, ns, e, _ => by unfold dInts at e; cases e
  | .flst _ :: r, _, ns, e, _ => by unfold dInts at e; cases e
  | .vls _ :: r, _, ns, e, _ => by unfold dInts at e; cases e
  | .ptr _ :: r, _, ns, e, _ => by unfold dInts at e; cases e
def ltD : D → D → M D
  | .int i, .int j => pure (.bl (decide (i < j)))
  | .str a, .str b => pure (.bl (decide (a.cps.toList < b.cps.toList)))
  | .tup a, .tup b => match dInts a, dInts b with
    | some ns, some ms => pure (.bl (HT.lexLt ns ms))
    | _, _ => stuck
  | _, _ => stuck
def leD : D → D → M D
  | .int i, .int j => pure (.bl (decide (i ≤ j)))
  | .str a, .str b => pure (.bl (!decide (b.cps.toList < a.cps.toList)))
  | _, _ => stuck
def gtD : D → D → M D
  | .int i, .int j => pure (.bl (decide (j < i)))
  | _, _ => stuck
def geD : D → D → M D
  | .int i, .int j => pure (.bl (decide (j ≤ i)))
  | _, _ => stuck
def isnD (x : D) : M D := match x with
  | .non => pure (.bl true)
  | _ => pure (.bl false)
def notnD (x : D) : M D := match x with
  | .non => pure (.bl false)
  | _ => pure (.bl true)
def isbD : D → D → M D
  | .bl a, .bl b => pure (.bl (decide (a = b)))
  | _, _ => stuck
def notbD : D → D → M D
  | .bl a, .bl b => pure (.bl (!decide (a = b)))
  | _, _ => stuck
def mapO {α β : Type} (f : α → Option β) : List α → Option (List β)
  | [] => some []
  | a :: r => match f a, mapO f r with
    | some b, some bs => some (b :: bs)
    | _, _ => none
def toPy (s : S) : Nat → D → Option PyData
  | 0, _ => none
  | k + 1, d => match d with
    | .non => some .none
    | .bl b => some (.bool b)
    | .int i => some (.int i)
    | .str x => some (.str x)
    | .tup ds => (mapO (toPy s k) ds).map .tuple
    | .flst ds => (mapO (toPy s k) ds).map .list
    | .vls ds => (mapO (toPy s k) ds).map .list
    | .ptr n => (match s[n]? with
      | some (.lst ds) => (mapO (toPy s k) ds).map .list
      | _ => none)
    | .rng _ _ _ => none
theorem toPy_dpL {K : PySem.W.Frag} {μ : Mu} {H : Hp} {s : S} {k : Nat} (ih : ∀ (d : D) (v : V) (p : PyData), toPy s k d = some p → Rep K μ H v d → Dp K H v p) :
    ∀ (ds : List D) (vs : List V) (ps : List PyData), mapO (toPy s k) ds = some ps → RepL K μ H vs ds → DpAll K H vs ps
  | [], _, ps, e, .nil => by
    unfold mapO at e
    cases e
    exact .nil
  | d :: ds, _, ps, e, .cons h t => by
    unfold mapO at e
    split at e
    · rename_i b bs e1 e2
      cases e
      exact .cons (ih d _ b e1 h) (toPy_dpL ih ds _ bs e2 t)
    · cases e
theorem toPy_dp {K : PySem.W.Frag} {μ : Mu} {H : Hp} {s : S} (hs : SimS K μ H s) : ∀ (k : Nat) (d : D) (v : V) (p : PyData), toPy s k d = some p → Rep K μ H v d → Dp K H v p
  | 0, _, _, _, e, _ => by cases e
  | k + 1, d, v, p, e, r => by
    unfold toPy at e
    cases r with
    | non => cases e; exact .non
    | bl b => cases e; exact .bl b
    | int i => cases e; exact .int i
    | str x => cases e; exact .str x
    | @tup a xs ds ha la =>
      simp only [] at e
      cases q : mapO (toPy s k) ds with
      | none => rw [q] at e; cases e
      | some ps =>
        rw [q] at e
        cases e
        exact .tup ha (toPy_dpL (toPy_dp hs k) ds xs ps q la)
    | @flst a xs ds ha la =>
      simp only [] at e
      cases q : mapO (toPy s k) ds with
      | none => rw [q] at e; cases e
      | some ps =>
        rw [q] at e
        cases e
        exact .lst ha.sqL (toPy_dpL (toPy_dp hs k) ds xs ps q la)
    | @vls a xs ds ha la =>
      simp only [] at e
      cases q : mapO (toPy s k) ds with
      | none => rw [q] at e; cases e
      | some ps =>
        rw [q] at e
        cases e
        exact .lst ha.sqL (toPy_dpL (toPy_dp hs k) ds xs ps q la)
    | @ptr a n ha =>
      simp only [] at e
      split at e
      · rename_i ds hd
        obtain ⟨xs, h1, la⟩ := cell_lst hs ha hd
        cases q : mapO (toPy s k) ds with
        | none => rw [q] at e; cases e
        | some ps =>
          rw [q] at e
          cases e
          exact .lst (SqL.of h1) (toPy_dpL (toPy_dp hs k) ds xs ps q la)
      · cases e
    | rng _ => cases e
/-- == by data -/
def eqD (x y : D) : M D := fun s => match x, y with
  | .int i, .int j => .ok (.bl (decide (i = j))) s
  | .bl a, .bl b => .ok (.bl (decide (a = b))) s
  | .str a, .str b => .ok (.bl (decide (a = b))) s
  | .non, .non => .ok (.bl true) s
  | x, y => match toPy s 12 x, toPy s 12 y with
    | some p, some q => if (SeqAt.shaped p && SeqAt.shaped q) = true then .ok (.bl (PyData.eqv p q)) s else .stuck
    | _, _ => .stuck
def notD (m : D → D → M D) (x y : D) : M D := do
  match ← m x y with
  | .bl b => pure (.bl (!b))
  | _ => stuck
def neD : D → D → M D := notD eqD
section
variable {X : Cx} {E : XK}
theorem op_ltD (hu : X.A.units < cLine) : OpR X (compareOp .Lt) (R2of X.K E ltD) := by
  intro pins s σ H x y v u Q I rx ry h
  obtain ⟨μ, st, dx, dy, hs, hx, hy, post⟩ := h
  unfold ltD at post
  split at post
  · cases hx
    cases hy
    rw [pure_run] at post
    exact op_lt pins s σ H _ _ v u Q I rx ry ⟨_, _, rfl, rfl, post_bl hs post⟩
  · cases hx
    cases hy
    rw [pure_run] at post
    exact op_lt_str pins s σ H _ _ v u Q I rx ry ⟨_, _, rfl, rfl, post_bl hs post⟩
  · rename_i a b
    cases hx with
    | @tup p xs _ ha la =>
      cases hy with
      | @tup q ys _ hb lb =>
        cases e1 : dInts a with
        | none => rw [e1] at post; exact (show False from post).elim
        | some ns =>
          cases e2 : dInts b with
          | none => rw [e1, e2] at post; exact (show False from post).elim
          | some ms =>
            rw [e1, e2] at post
            rw [dInts_rep e1 la] at ha
            rw [dInts_rep e2 lb] at hb
            exact op_ltT hu pins s σ H _ _ v u Q I rx ry ⟨p, q, ns, ms, rfl, rfl, ha, hb, post_bl hs post⟩
  · rename_i h1 h2 h3
    cases hx <;> cases hy <;> first | exact (show False from post).elim | exact (h1 _ _ rfl rfl).elim | exact (h2 _ _ rfl rfl).elim | exact (h3 _ _ rfl rfl).elim
theorem op_leD : OpR X (compareOp .LtE) (R2of X.K E leD) := by
  intro pins s σ H x y v u Q I rx ry h
  obtain ⟨μ, st, dx, dy, hs, hx, hy, post⟩ := h
  unfold leD at post
  split at post
  · cases hx
    cases hy
    rw [pure_run] at post
    exact op_le pins s σ H _ _ v u Q I rx ry ⟨_, _, rfl, rfl, post_bl hs post⟩
  · cases hx
    cases hy
    rw [pure_run] at post
    exact op_le_str pins s σ H _ _ v u Q I rx ry ⟨_, _, rfl, rfl, post_bl hs post⟩
  · rename_i h1 h2
    cases hx <;> cases hy <;> first | exact (show False from post).elim | exact (h1 _ _ rfl rfl).elim | exact (h2 _ _ rfl rfl).elim
theorem op_gtD : OpR X (compareOp .Gt) (R2of X.K E gtD) := by
  intro pins s σ H x y v u Q I rx ry h
  obtain ⟨μ, st, dx, dy, hs, hx, hy, post⟩ := h
  unfold gtD at post
  split at post
  · cases hx
    cases hy
    rw [pure_run] at post
    exact op_gt pins s σ H _ _ v u Q I rx ry ⟨_, _, rfl, rfl, post_bl hs post⟩
  · rename_i h1
    cases hx <;> cases hy <;> first | exact (show False from post).elim | exact (h1 _ _ rfl rfl).elim
theorem op_geD : OpR X (compareOp .GtE) (R2of X.K E geD) := by
  intro pins s σ H x y v u Q I rx ry h
  obtain ⟨μ, st, dx, dy, hs, hx, hy, post⟩ := h
  unfold geD at post
  split at post
  · cases hx
    cases hy
    rw [pure_run] at post
    exact op_ge pins s σ H _ _ v u Q I rx ry ⟨_, _, rfl, rfl, post_bl hs post⟩
  · rename_i h1
    cases hx <;> cases hy <;> first | exact (show False from post).elim | exact (h1 _ _ rfl rfl).elim
theorem op_isbD : OpR X (compareOp .Is) (R2of X.K E isbD) := by
  intro pins s σ H x y v u Q I rx ry h
  obtain ⟨μ, st, dx, dy, hs, hx, hy, post⟩ := h
  unfold isbD at post
  split at post
  · cases hx
    cases hy
    rw [pure_run] at post
    exact op_isBl pins s σ H _ _ v u Q I rx ry ⟨_, _, rfl, rfl, post_bl hs post⟩
  · rename_i h1
    cases hx <;> cases hy <;> first | exact (show False from post).elim | exact (h1 _ _ rfl rfl).elim
theorem op_notbD : OpR X (compareOp .IsNot) (R2of X.K E notbD) := by
  intro pins s σ H x y v u Q I rx ry h
  obtain ⟨μ, st, dx, dy, hs, hx, hy, post⟩ := h
  unfold notbD at post
  split at post
  · cases hx
    cases hy
    rw [pure_run] at post
    exact op_notBl pins s σ H _ _ v u Q I rx ry ⟨_, _, rfl, rfl, post_bl hs post⟩
  · rename_i h1
    cases hx <;> cases hy <;> first | exact (show False from post).elim | exact (h1 _ _ rfl rfl).elim
/-- what == gives, as a fact of both sides -/
theorem eqD_core {K : PySem.W.Frag} {μ : Mu} {H : Hp} {st : S} {dx dy : D} {x y : V} {r : D} {st' : S} (hs : SimS K μ H st) (hx : Rep K μ H x dx) (hy : Rep K μ H y dy) (e : eqD dx dy st = .ok r st') :
    st' = st ∧ ∃ b, r = .bl b ∧ ((scal x y = true ∧ b = decide (x = y)) ∨ ∃ p q, Dp K H x p ∧ Dp K H y q ∧ SeqAt.shaped p = true ∧ SeqAt.shaped q = true ∧ b = PyData.eqv p q) := by
  unfold eqD at e
  split at e
  · cases hx; cases hy; cases e
    exact ⟨rfl, _, rfl, .inl ⟨rfl, by simp⟩⟩
  · cases hx; cases hy; cases e
    exact ⟨rfl, _, rfl, .inl ⟨rfl, by simp⟩⟩
  · cases hx; cases hy; cases e
    exact ⟨rfl, _, rfl, .inl ⟨rfl, by simp⟩⟩
  · cases hx; cases hy; cases e
    exact ⟨rfl, _, rfl, .inl ⟨rfl, by simp⟩⟩
  · split at e
    · rename_i p q e1 e2
      split at e
      · rename_i hsh
        rw [Bool.and_eq_true] at hsh
        cases e
        exact ⟨rfl, _, rfl, .inr ⟨p, q, toPy_dp hs 12 _ _ p e1 hx, toPy_dp hs 12 _ _ q e2 hy, hsh.1, hsh.2, rfl⟩⟩
      · cases e
    · cases e
theorem eqD_noexc {dx dy : D} {st st' : S} {c : Str} (e : eqD dx dy st = .exc c st') : False := by
  unfold eqD at e
  repeat (first | cases e | split at e)
theorem op_eqDD (hu : X.A.units + 64 < cLine) : OpR X (compareOp .Eq) (R2of X.K E eqD) := by
  intro pins s σ H x y v u Q I rx ry h
  obtain ⟨μ, st, dx, dy, hs, hx, hy, post⟩ := h
  cases e : eqD dx dy st with
  | stuck => rw [e] at post; exact (show False from post).elim
  | exc c s' => exact (eqD_noexc e).elim
  | ok r s' =>
    rw [e] at post
    obtain ⟨rfl, b, rfl, ⟨h1, rfl⟩ | ⟨p, q, d1, d2, s1, s2, rfl⟩⟩ := eqD_core hs hx hy e
    · exact op_eq pins s σ H _ _ v u Q I rx ry ⟨h1, post_bl hs post⟩
    · exact op_eqD hu pins s σ H _ _ v u Q I rx ry ⟨p, q, d1, d2, s1, s2, post_bl hs post⟩
theorem op_neDD (hu : X.A.units + 64 < cLine) : OpR X (compareOp .NotEq) (R2of X.K E neD) := by
  intro pins s σ H x y v u Q I rx ry h
  obtain ⟨μ, st, dx, dy, hs, hx, hy, post⟩ := h
  unfold neD notD at post
  rw [bind_run] at post
  cases e : eqD dx dy st with
  | stuck => rw [e] at post; exact (show False from post).elim
  | exc c s' => exact (eqD_noexc e).elim
  | ok r s' =>
    rw [e] at post
    obtain ⟨rfl, b, rfl, ⟨h1, rfl⟩ | ⟨p, q, d1, d2, s1, s2, rfl⟩⟩ := eqD_core hs hx hy e
    · exact op_ne pins s σ H _ _ v u Q I rx ry ⟨h1, post_bl hs post⟩
    · exact op_neD hu pins s σ H _ _ v u Q I rx ry ⟨p, q, d1, d2, s1, s2, post_bl hs post⟩
end
end PL

/-! PL3: expressions. -/
namespace PL
open PySem PySem.Spec PyProof.Rows L2

/-! ### combinators -/
def varM (i : Nat) (env : Env) : M D := match env[i]? with
  | some (some d) => pure d
  | _ => stuck
def cM (d : D) (_ : Env) : M D := pure d
def unM (f : D → M D) (ma : Env → M D) (env : Env) : M D := ma env >>= f
def binM (f : D → D → M D) (ma mb : Env → M D) (env : Env) : M D := ma env >>= fun x => mb env >>= fun y => f x y
def asB (m : M D) : M Bool := m >>= fun d => match d with
  | .bl b => pure b
  | _ => stuck
def tB (m : Env → M D) (env : Env) : M Bool := asB (m env)
def vB (m : Env → M Bool) (env : Env) : M D := m env >>= fun b => pure (.bl b)
def chainM (f g : D → D → M D) (ma mb mc : Env → M D) (env : Env) : M D :=
  ma env >>= fun x => mb env >>= fun y => f x y >>= fun r => match r with
    | .bl true => mc env >>= fun z => g y z
    | .bl false => pure (.bl false)
    | _ => stuck
def truD : D → M Bool
  | .non => pure false
  | .bl b => pure b
  | .int i => pure (i != 0)
  | .str x => if x.length ≤ 100000 then pure ((x.length : Int) != 0) else stuck
  | .tup ds => pure (!ds.isEmpty)
  | .flst ds => pure (!ds.isEmpty)
  | .vls ds => pure (!ds.isEmpty)
  | .ptr n => fun s => (match s[n]? with
    | some (.lst ds) => .ok (!ds.isEmpty) s
    | some (.dK kvs) => .ok (!kvs.isEmpty) s
    | _ => .stuck)
  | .rng _ _ _ => stuck
def truM (m : Env → M D) (env : Env) : M Bool := m env >>= truD
def andM (ma mb : Env → M D) (env : Env) : M D := ma env >>= fun x => truD x >>= fun k => if k then mb env else pure x
def orM (ma mb : Env → M D) (env : Env) : M D := ma env >>= fun x => truD x >>= fun k => if k then pure x else mb env
def notM (ma : Env → M D) (env : Env) : M D := ma env >>= fun x => truD x >>= fun k => pure (.bl (!k))
def andT (ma mb : Env → M Bool) (env : Env) : M Bool := ma env >>= fun k => if k then mb env else pure false
def orT (ma mb : Env → M Bool) (env : Env) : M Bool := ma env >>= fun k => if k then pure true else mb env
def notT (ma : Env → M Bool) (env : Env) : M Bool := ma env >>= fun k => pure (!k)
def ifM (mc : Env → M Bool) (ma mb : Env → M D) (env : Env) : M D := mc env >>= fun k => if k then ma env else mb env
def nilA (_ : Env) : M (List D) := pure []
def consA (ma : Env → M D) (mr : Env → M (List D)) (env : Env) : M (List D) := ma env >>= fun d => mr env >>= fun ds => pure (d :: ds)
def tupM (ma : Env → M (List D)) (env : Env) : M D := ma env >>= fun ds => if ds.length ≤ 100000 then pure (.tup ds) else stuck
def lstM (ma : Env → M (List D)) (env : Env) : M D := ma env >>= fun ds => if ds.length ≤ 100000 then allocC (.lst ds) else stuck
def lstF (ma : Env → M (List D)) (env : Env) : M D := ma env >>= fun ds => if ds.length ≤ 100000 then pure (.vls ds) else stuck
def callM (f : List D → M D) (ma : Env → M (List D)) (env : Env) : M D := ma env >>= f

theorem lmap_fst {κ : Type} [DecidableEq κ] {K : PySem.W.Frag} {μ : Mu} {H : Hp} {k : κ} : ∀ {xs : List (κ × V)} {ds : List (κ × D)}, RepK K μ H xs ds → ∀ {d : D}, (ds.find? fun kv => decide (kv.1 = k)).map (·.2) = some d → ∃ v, valV xs k = some v ∧ Rep K μ H v d
  | [], [], _, d, e => by simp at e
  | [], q :: ds, h, d, e => by
    have := h.1
    simp at this
  | p :: xs, [], h, d, e => by
    have := h.1
    simp at this
  | p :: xs, q :: ds, ⟨h1, h2⟩, d, e => by
    rw [List.map_cons, List.map_cons] at h1
    have e1 : p.1 = q.1 := (List.cons.inj h1).1
    have e2 := (List.cons.inj h1).2
    rw [List.map_cons, List.map_cons] at h2
    cases h2 with
    | cons r t =>
      by_cases hk : q.1 = k
      · rw [List.find?_cons] at e
        simp only [hk, decide_true, Option.map_some, Option.some.injEq] at e
        subst e
        exact ⟨p.2, valV_pos (e1.trans hk), r⟩
      · rw [List.find?_cons] at e
        simp only [hk, decide_false] at e
        obtain ⟨v, hv, hr⟩ := lmap_fst ⟨e2, t⟩ e
        exact ⟨v, by rw [valV_neg (by rw [e1]; exact hk)]; exact hv, hr⟩
theorem lmap_none {κ : Type} [DecidableEq κ] {K : PySem.W.Frag} {μ : Mu} {H : Hp} {k : κ} : ∀ {xs : List (κ × V)} {ds : List (κ × D)}, RepK K μ H xs ds → (ds.find? fun kv => decide (kv.1 = k)).map (·.2) = none → valV xs k = none
  | [], [], _, e => rfl
  | [], q :: ds, h, e => by
    have := h.1
    simp at this
  | p :: xs, [], h, e => by
    have := h.1
    simp at this
  | p :: xs, q :: ds, ⟨h1, h2⟩, e => by
    rw [List.map_cons, List.map_cons] at h1
    have e1 : p.1 = q.1 := (List.cons.inj h1).1
    have e2 := (List.cons.inj h1).2
    rw [List.map_cons, List.map_cons] at h2
    cases h2 with
    | cons r t =>
      by_cases hk : q.1 = k
      · rw [List.find?_cons] at e
        simp [hk] at e
      · rw [List.find?_cons] at e
        simp only [hk, decide_false] at e
        rw [valV_neg (by rw [e1]; exact hk)]
        exact lmap_none ⟨e2, t⟩ e
def valD {κ : Type} [DecidableEq κ] (kvs : List (κ × D)) (k : κ) : Option D := (kvs.find? fun kv => decide (kv.1 = k)).map (·.2)
def dKey : D → Option Key
  | .int i => some (.inl i)
  | .str x => some (.inr x)
  | _ => none
theorem dKey_rep {K : PySem.W.Frag} {μ : Mu} {H : Hp} {d : D} {v : V} {k : Key} (e : dKey d = some k) (r : Rep K μ H v d) : v = kV k := by
  cases r <;> first | (cases e; rfl) | cases e
theorem cell_rdK {K : PySem.W.Frag} {μ : Mu} {H : Hp} {s : S} {n : Nat} {a : Addr} {ds : List (Key × D)} (hs : SimS K μ H s) (ha : μ.c[n]? = some a) (e : s[n]? = some (.dK ds) ∨ s[n]? = some (.fK ds)) : ∃ xs, Rd H a (.dK xs) ∧ RepK K μ H xs ds := by
  rcases e with e | e
  · obtain ⟨b, hb, hc⟩ := hs.cell n _ e
    rw [ha] at hb
    cases hb
    obtain ⟨xs, h1, h2⟩ := hc
    exact ⟨xs, .inl h1, h2⟩
  · obtain ⟨b, hb, hc⟩ := hs.cell n _ e
    rw [ha] at hb
    cases hb
    obtain ⟨o, xs, h1, h2⟩ := hc
    exact ⟨xs, .inr ⟨o, h1⟩, h2⟩
theorem cell_dK {K : PySem.W.Frag} {μ : Mu} {H : Hp} {s : S} {n : Nat} {a : Addr} {ds : List (Key × D)} (hs : SimS K μ H s) (ha : μ.c[n]? = some a) (e : s[n]? = some (.dK ds)) : ∃ xs, H a = some (.dK xs) ∧ RepK K μ H xs ds := by
  obtain ⟨b, hb, hc⟩ := hs.cell n _ e
  rw [ha] at hb
  cases hb
  exact hc
def ixS (ds : List D) (y : D) : M D := match y with
  | .int i => (match atI ds i with
    | some d => pure d
    | none => stuck)
  | _ => stuck
def ixK (kvs : List (Key × D)) (y : D) : M D := match dKey y with
  | some k => (match valD kvs k with
    | some d => pure d
    | none => stuck)
  | none => stuck
/-- x[y] -/
def ixD (x y : D) : M D := match x with
  | .tup ds => ixS ds y
  | .flst ds => ixS ds y
  | .vls ds => ixS ds y
  | .str z => (match y with
    | .int i => if z.length ≤ 100000 then (match atI z.cps.toList i with
      | some c => pure (.str ⟨#[c]⟩)
      | none => stuck) else stuck
    | _ => stuck)
  | .ptr n => fun s => match s[n]? with
    | some (.lst ds) => ixS ds y s
    | some (.dK kvs) => ixK kvs y s
    | some (.fK kvs) => ixK kvs y s
    | _ => .stuck
  | _ => stuck
theorem atI_rep {K : PySem.W.Frag} {μ : Mu} {H : Hp} {xs : List V} {ds : List D} {i : Int} {d : D} (r : RepL K μ H xs ds) (e : atI ds i = some d) : ∃ v, atI xs i = some v ∧ Rep K μ H v d := by
  unfold atI at *
  rw [r.length]
  cases q : ixN ds.length i with
  | none => rw [q] at e; cases e
  | some j =>
    rw [q] at e
    exact r.get e
theorem PE.or {X : Cx} {e : Expr} {t t' : TE} (h : PE X e t) (h' : PE X e t') : PE X e (fun σ H Q => t σ H Q ∨ t' σ H Q) :=
  ⟨fun pins s σ H Q I q => q.elim (fun q => h.run pins s σ H Q I q) (fun q => h'.run pins s σ H Q I q)⟩
section
variable {X : Cx} {E : XK} {a b c e : Expr} {ma mb mc : Env → M D} {ta tb tc : Env → M Bool} {pos : Pos} {f g : D → D → M D}
/-- both sides of a two-place reading -/
theorem te_bin {r : R2} {K : PySem.W.Frag} (hr : ∀ x y H Q, R2of K E f x y H Q → r x y H Q) : ∀ σ H Q, TEof K E (binM f ma mb) σ H Q → tOp r (TEof K E ma) (TEof K E mb) σ H Q := by
  rintro σ H Q ⟨μ, env, s, hv, hs, post⟩
  refine ⟨μ, env, s, hv, hs, (Post.bind post).mono fun x s1 μ1 H1 g1 hs1 p1 v hx => ?_⟩
  refine ⟨μ1, env, s1, hv.grow g1, hs1, (Post.bind p1).mono fun y s2 μ2 H2 g2 hs2 p2 u hy => ?_⟩
  exact hr _ _ _ _ ⟨μ2, s2, x, y, hs2, Rep.grow g2 x v hx, hy, p2⟩
theorem te_un {r : V → Hp → VK → Prop} {K : PySem.W.Frag} {h : D → M D} (hr : ∀ x H Q, R1of K E h x H Q → r x H Q) : ∀ σ H Q, TEof K E (unM h ma) σ H Q → tUn r (TEof K E ma) σ H Q := by
  rintro σ H Q ⟨μ, env, s, hv, hs, post⟩
  refine ⟨μ, env, s, hv, hs, (Post.bind post).mono fun x s1 μ1 H1 g1 hs1 p1 v hx => ?_⟩
  exact hr _ _ _ ⟨μ1, s1, x, hs1, hx, p1⟩

theorem se_var (i : Nat) {x : Str} (hN : X.N[i]? = some x := by rfl) (hv : Vis X.env.scope x := by first | exact Or.inl rfl | exact Or.inr (Or.inl rfl) | exact Or.inr (Or.inr rfl)) (hd : (x == ("__debug__" : Str)) = false := by decide)
    (hcd : (x == ("__classdict__" : Str)) = false := by decide) : SE X E (.Name x pos) (varM i) := PE.imp (pe_var hN hv hd hcd) (by
  rintro σ H Q ⟨μ, env, s, hv, hs, post⟩
  unfold varM at post
  cases e : env[i]? with
  | none => rw [e] at post; exact (show False from post).elim
  | some o =>
    cases o with
    | none => rw [e] at post; exact (show False from post).elim
    | some d =>
      rw [e] at post
      obtain ⟨v, h1, h2⟩ := hv.val i d e
      exact ⟨v, h1, post_val hs post h2⟩)
theorem te_c {K : PySem.W.Frag} {d : D} {v : V} (hr : ∀ μ H, Rep K μ H v d) : ∀ σ H Q, TEof K E (cM d) σ H Q → tC v σ H Q := by
  rintro σ H Q ⟨μ, env, s, hv, hs, post⟩
  exact post_val hs post (hr μ H)
theorem se_int {i j} : SE X E (.Constant (.int i) j pos) (cM (.int i)) := PE.imp pe_int (te_c fun _ _ => .int i)
theorem se_bl {k j} : SE X E (.Constant (.bool k) j pos) (cM (.bl k)) := PE.imp pe_bl (te_c fun _ _ => .bl k)
theorem se_non {j} : SE X E (.Constant .none j pos) (cM .non) := PE.imp pe_non (te_c fun _ _ => .non)
theorem se_str {x j} : SE X E (.Constant (.str x) j pos) (cM (.str x)) := PE.imp pe_str (te_c fun _ _ => .str x)
theorem se_glob {x : Str} {d : D} {v : V} {u : Value} (hg : Gl X x) (hm : X.mg x = some u) (r : RelV v u) (hr : ∀ μ H, Rep X.K μ H v d) (hd : (x == ("__debug__" : Str)) = false := by decide) : SE X E (.Name x pos) (cM d) := PE.imp (pe_glob hg hm r hd) (te_c hr)

theorem se_bin {op : Operator} (ho : OpR X (binaryOp op) (R2of X.K E f)) (ha : SE X E a ma) (hb : SE X E b mb) : SE X E (.BinOp a op b pos) (binM f ma mb) := PE.imp (pe_op ho ha hb) (te_bin fun _ _ _ _ h => h)
theorem se_add (ha : SE X E a ma) (hb : SE X E b mb) : SE X E (.BinOp a .Add b pos) (binM addD ma mb) := se_bin op_addD ha hb
theorem se_sub (ha : SE X E a ma) (hb : SE X E b mb) : SE X E (.BinOp a .Sub b pos) (binM subD ma mb) := se_bin op_subD ha hb
theorem se_mul (ha : SE X E a ma) (hb : SE X E b mb) : SE X E (.BinOp a .Mult b pos) (binM mulD ma mb) := se_bin op_mulD ha hb
theorem se_fdiv (ha : SE X E a ma) (hb : SE X E b mb) : SE X E (.BinOp a .FloorDiv b pos) (binM fdivD ma mb) := se_bin op_fdivD ha hb
theorem se_mod (ha : SE X E a ma) (hb : SE X E b mb) : SE X E (.BinOp a .Mod b pos) (binM modD ma mb) := se_bin op_modD ha hb
theorem se_pow (ha : SE X E a ma) (hb : SE X E b mb) : SE X E (.BinOp a .Pow b pos) (binM powD ma mb) := se_bin op_powD ha hb
theorem se_neg (ha : SE X E a ma) : SE X E (.UnaryOp .USub a pos) (unM negD ma) := PE.imp (pe_un un_negD ha) (te_un fun _ _ _ h => h)
theorem se_cmp {op : CmpOp} (ho : OpR X (compareOp op) (R2of X.K E f)) (ha : SE X E a ma) (hb : SE X E b mb) (hm : behindInMarks op b = false) : SE X E (.Compare a [op] [b] pos) (binM f ma mb) := PE.imp (pe_cmpR ho ha hb hm) (te_bin fun _ _ _ _ h => h)
/-- a bool as a test -/
theorem tt_of {t : TE} {K : PySem.W.Frag} {m : Env → M D} (ht : ∀ σ H Q, TEof K E m σ H Q → t σ H Q) : ∀ σ H Q, TTof K E (tB m) σ H Q → tTest t σ H Q := by
  rintro σ H Q ⟨μ, env, s, hv, hs, post⟩
  refine ht _ _ _ ⟨μ, env, s, hv, hs, (Post.bind post).mono fun x s1 μ1 H1 g1 hs1 p1 v hx => ?_⟩
  cases hx with
  | bl k => exact ⟨k, rfl, Post.now p1 hs1⟩
  | _ => exact (show False from p1).elim
theorem st_cmp {op : CmpOp} (ho : OpR X (compareOp op) (R2of X.K E f)) (ha : SE X E a ma) (hb : SE X E b mb) (hm : behindInMarks op b = false) : ST X E (.Compare a [op] [b] pos) (tB (binM f ma mb)) := PT.imp (pt_cmpR ho ha hb hm) (tt_of (te_bin fun _ _ _ _ h => h))
theorem te_chain {K : PySem.W.Frag} : ∀ σ H Q, TEof K E (chainM f g ma mb mc) σ H Q → tChain (R2of K E f) (R2of K E g) (TEof K E ma) (TEof K E mb) (TEof K E mc) σ H Q := by
  rintro σ H Q ⟨μ, env, s, hv, hs, post⟩
  refine ⟨μ, env, s, hv, hs, (Post.bind post).mono fun x s1 μ1 H1 g1 hs1 p1 v hx => ?_⟩
  refine ⟨μ1, env, s1, hv.grow g1, hs1, (Post.bind p1).mono fun y s2 μ2 H2 g2 hs2 p2 u hy => ?_⟩
  refine ⟨μ2, s2, x, y, hs2, Rep.grow g2 x v hx, hy, (Post.bind p2).mono fun r s3 μ3 H3 g3 hs3 p3 w hr => ?_⟩
  cases hr with
  | bl k =>
    refine ⟨k, rfl, ?_⟩
    cases k with
    | false => exact post_bl hs3 p3
    | true =>
      refine ⟨μ3, env, s3, (hv.grow (g1.trans (g2.trans g3))), hs3, (Post.bind p3).mono fun z s4 μ4 H4 g4 hs4 p4 w' hz => ?_⟩
      exact ⟨μ4, s4, y, z, hs4, Rep.grow (g3.trans g4) y u hy, hz, p4⟩
  | _ => exact (show False from p3).elim
theorem se_chain {op op' : CmpOp} (ho : OpR X (compareOp op) (R2of X.K E f)) (ho' : OpR X (compareOp op') (R2of X.K E g)) (ha : SE X E a ma) (hb : SE X E b mb) (hc : SE X E c mc)
    (hm : lastMarks [op, op'] [b, c] = false := by with_unfolding_all rfl) : SE X E (.Compare a [op, op'] [b, c] pos) (chainM f g ma mb mc) := PE.imp (pe_chain ho ho' ha hb hc hm) te_chain
theorem st_chain {op op' : CmpOp} (ho : OpR X (compareOp op) (R2of X.K E f)) (ho' : OpR X (compareOp op') (R2of X.K E g)) (ha : SE X E a ma) (hb : SE X E b mb) (hc : SE X E c mc)
    (hm : lastMarks [op, op'] [b, c] = false := by with_unfolding_all rfl) : ST X E (.Compare a [op, op'] [b, c] pos) (tB (chainM f g ma mb mc)) := PT.imp (pt_chain ho ho' ha hb hc hm) (tt_of te_chain)
theorem te_isN {K : PySem.W.Frag} : ∀ σ H Q, TEof K E (unM isnD ma) σ H Q → tIsN (TEof K E ma) σ H Q := by
  rintro σ H Q ⟨μ, env, s, hv, hs, post⟩
  refine ⟨μ, env, s, hv, hs, (Post.bind post).mono fun x s1 μ1 H1 g1 hs1 p1 v hx => ?_⟩
  cases hx <;> exact post_bl hs1 p1
theorem te_notN {K : PySem.W.Frag} : ∀ σ H Q, TEof K E (unM notnD ma) σ H Q → tNotN (TEof K E ma) σ H Q := by
  rintro σ H Q ⟨μ, env, s, hv, hs, post⟩
  refine ⟨μ, env, s, hv, hs, (Post.bind post).mono fun x s1 μ1 H1 g1 hs1 p1 v hx => ?_⟩
  cases hx <;> exact post_bl hs1 p1
theorem se_isN {j pos'} (ha : SE X E a ma) : SE X E (.Compare a [.Is] [.Constant .none j pos'] pos) (unM isnD ma) := PE.imp (pe_cmp (pc_isN ha) rfl) te_isN
theorem se_notN {j pos'} (ha : SE X E a ma) : SE X E (.Compare a [.IsNot] [.Constant .none j pos'] pos) (unM notnD ma) := PE.imp (pe_cmp (pc_notN ha) rfl) te_notN
theorem tB_of {t : TE} {K : PySem.W.Frag} {m : Env → M D} (ht : ∀ σ H Q, TEof K E m σ H Q → t σ H Q) : ∀ σ H Q, TTof K E (tB m) σ H Q → L2.tB t σ H Q := by
  rintro σ H Q ⟨μ, env, s, hv, hs, post⟩
  refine ht _ _ _ ⟨μ, env, s, hv, hs, (Post.bind post).mono fun x s1 μ1 H1 g1 hs1 p1 v hx => ?_⟩
  cases hx with
  | bl k => exact ⟨k, rfl, Post.now p1 hs1⟩
  | _ => exact (show False from p1).elim
theorem st_isN {j pos'} (ha : SE X E a ma) : ST X E (.Compare a [.Is] [.Constant .none j pos'] pos) (tB (unM isnD ma)) := PT.imp (pt_cmp (pc_isN ha) rfl) (tB_of te_isN)
theorem st_notN {j pos'} (ha : SE X E a ma) : ST X E (.Compare a [.IsNot] [.Constant .none j pos'] pos) (tB (unM notnD ma)) := PT.imp (pt_cmp (pc_notN ha) rfl) (tB_of te_notN)

/-! ### truth -/
theorem tru_of {K : PySem.W.Frag} {μ : Mu} {H : Hp} {s : S} {d : D} {v : V} {q : Bool → S → Mu → Hp → Prop} (hs : SimS K μ H s) (r : Rep K μ H v d) (post : Post K E μ H (truD d s) q) : ∃ k, TruV K v H k ∧ q k s μ H := by
  unfold truD at post
  cases r with
  | non => exact ⟨false, rfl, Post.now post hs⟩
  | bl b => exact ⟨b, rfl, Post.now post hs⟩
  | int i => exact ⟨_, rfl, Post.now post hs⟩
  | str x =>
    simp only [] at post
    split at post
    · rename_i hl
      exact ⟨_, ⟨sz_ok hl, rfl⟩, Post.now post hs⟩
    · exact (show False from post).elim
  | @tup p xs ds ha la =>
    refine ⟨_, .inr (.inl ⟨xs, ha, rfl⟩), ?_⟩
    have e : ds.isEmpty = xs.isEmpty := by cases la <;> rfl
    rw [← e]
    exact Post.now post hs
  | @flst p xs ds ha la =>
    refine ⟨_, .inl ⟨xs, ha.sqL, rfl⟩, ?_⟩
    have e : ds.isEmpty = xs.isEmpty := by cases la <;> rfl
    rw [← e]
    exact Post.now post hs
  | @vls p xs ds ha la =>
    refine ⟨_, .inl ⟨xs, ha.sqL, rfl⟩, ?_⟩
    have e : ds.isEmpty = xs.isEmpty := by cases la <;> rfl
    rw [← e]
    exact Post.now post hs
  | rng _ => exact (show False from post).elim
  | @ptr p n ha =>
    simp only [] at post
    split at post
    · rename_i ds hd
      obtain ⟨xs, h1, la⟩ := cell_lst hs ha hd
      refine ⟨_, .inl ⟨xs, SqL.of h1, rfl⟩, ?_⟩
      have e : ds.isEmpty = xs.isEmpty := by cases la <;> rfl
      rw [← e]
      exact Post.now post hs
    · rename_i kvs hd
      obtain ⟨xs, h1, h2⟩ := cell_dK hs ha hd
      refine ⟨_, .inr (.inr ⟨xs, h1, rfl⟩), ?_⟩
      have e : kvs.isEmpty = xs.isEmpty := by
        have := congrArg List.length h2.1
        rw [List.length_map, List.length_map] at this
        cases kvs <;> cases xs <;> simp at this <;> rfl
      rw [← e]
      exact Post.now post hs
    · exact (show False from post).elim
theorem st_truth (ha : SE X E a ma) (he : ∀ whole, isTrue a X.env whole = (do let v ← whole; standAt a.pos; holding [v] (truthy v)) := by intro _; rfl) : ST X E a (truM ma) := PT.imp (pt_truth ha he) (by
  rintro σ H Q ⟨μ, env, s, hv, hs, post⟩
  refine ⟨μ, env, s, hv, hs, (Post.bind post).mono fun x s1 μ1 H1 g1 hs1 p1 v hx => ?_⟩
  exact tru_of hs1 hx p1)
theorem se_one {op} (h : SE X E a ma) : SE X E (.BoolOp op [a] pos) ma := pe_one h
theorem se_and {rest : List Expr} (ha : SE X E a ma) (hb : SE X E (.BoolOp .And (b :: rest) pos) mb) : SE X E (.BoolOp .And (a :: b :: rest) pos) (andM ma mb) := PE.imp (pe_andT ha hb) (by
  rintro σ H Q ⟨μ, env, s, hv, hs, post⟩
  refine ⟨μ, env, s, hv, hs, (Post.bind post).mono fun x s1 μ1 H1 g1 hs1 p1 v hx => ?_⟩
  obtain ⟨k, h1, h2⟩ := tru_of hs1 hx (Post.bind p1)
  refine ⟨k, h1, ?_⟩
  cases k with
  | true => exact ⟨μ1, env, s1, hv.grow g1, hs1, h2⟩
  | false => exact post_val hs1 h2 hx)
theorem se_or {rest : List Expr} (ha : SE X E a ma) (hb : SE X E (.BoolOp .Or (b :: rest) pos) mb) : SE X E (.BoolOp .Or (a :: b :: rest) pos) (orM ma mb) := PE.imp (pe_orT ha hb) (by
  rintro σ H Q ⟨μ, env, s, hv, hs, post⟩
  refine ⟨μ, env, s, hv, hs, (Post.bind post).mono fun x s1 μ1 H1 g1 hs1 p1 v hx => ?_⟩
  obtain ⟨k, h1, h2⟩ := tru_of hs1 hx (Post.bind p1)
  refine ⟨k, h1, ?_⟩
  cases k with
  | true => exact post_val hs1 h2 hx
  | false => exact ⟨μ1, env, s1, hv.grow g1, hs1, h2⟩)
theorem se_not (ha : SE X E a ma) : SE X E (.UnaryOp .Not a pos) (notM ma) := PE.imp (pe_notT ha) (by
  rintro σ H Q ⟨μ, env, s, hv, hs, post⟩
  refine ⟨μ, env, s, hv, hs, (Post.bind post).mono fun x s1 μ1 H1 g1 hs1 p1 v hx => ?_⟩
  obtain ⟨k, h1, h2⟩ := tru_of hs1 hx (Post.bind p1)
  exact ⟨k, h1, post_bl hs1 h2⟩)
theorem sw_and1 (ha : ST X E a ta) : SW X E (.BoolOp .And [a] pos) ta := pw_and1 ha
theorem sw_or1 (ha : ST X E a ta) : SW X E (.BoolOp .Or [a] pos) ta := pw_or1 ha
theorem sw_and {rest : List Expr} (ha : ST X E a ta) (hb : SW X E (.BoolOp .And (b :: rest) pos) tb) : SW X E (.BoolOp .And (a :: b :: rest) pos) (andT ta tb) := PW.imp (pw_and ha hb) (by
  rintro σ H Q ⟨μ, env, s, hv, hs, post⟩
  refine ⟨μ, env, s, hv, hs, (Post.bind post).mono fun x s1 μ1 H1 g1 hs1 p1 => ?_⟩
  show if x = true then _ else _
  cases x with
  | true => exact ⟨μ1, env, s1, hv.grow g1, hs1, p1⟩
  | false => exact Post.now p1 hs1)
theorem sw_or {rest : List Expr} (ha : ST X E a ta) (hb : SW X E (.BoolOp .Or (b :: rest) pos) tb) : SW X E (.BoolOp .Or (a :: b :: rest) pos) (orT ta tb) := PW.imp (pw_or ha hb) (by
  rintro σ H Q ⟨μ, env, s, hv, hs, post⟩
  refine ⟨μ, env, s, hv, hs, (Post.bind post).mono fun x s1 μ1 H1 g1 hs1 p1 => ?_⟩
  show if x = true then _ else _
  cases x with
  | true => exact Post.now p1 hs1
  | false => exact ⟨μ1, env, s1, hv.grow g1, hs1, p1⟩)
theorem st_w (h : SW X E a ta) : ST X E a ta := PW.pt h
theorem st_not (ha : ST X E a ta) : ST X E (.UnaryOp .Not a pos) (notT ta) := PT.imp (pt_not ha) (by
  rintro σ H Q ⟨μ, env, s, hv, hs, post⟩
  refine ⟨μ, env, s, hv, hs, (Post.bind post).mono fun x s1 μ1 H1 g1 hs1 p1 => ?_⟩
  have q : okB Q (!x) s1 μ1 H1 := Post.now p1 hs1
  exact q)
theorem se_if (hc : ST X E c tc) (ha : SE X E a ma) (hb : SE X E b mb) : SE X E (.IfExp c a b pos) (ifM tc ma mb) := PE.imp (pe_ifExp hc ha hb) (by
  rintro σ H Q ⟨μ, env, s, hv, hs, post⟩
  refine ⟨μ, env, s, hv, hs, (Post.bind post).mono fun x s1 μ1 H1 g1 hs1 p1 => ?_⟩
  show if x = true then _ else _
  cases x with
  | true => exact ⟨μ1, env, s1, hv.grow g1, hs1, p1⟩
  | false => exact ⟨μ1, env, s1, hv.grow g1, hs1, p1⟩)

/-! ### arguments, displays -/
variable {es : List Expr} {mr : Env → M (List D)}
theorem sa_nil : SA X E [] nilA := PA.imp pa_nil (by
  rintro σ H Q ⟨μ, env, s, hv, hs, post⟩
  exact Post.now post hs [] .nil)
theorem sa_cons (ha : SE X E a ma) (hr : SA X E es mr) (hs : starEach (a :: es) X.env = (false, eval a X.env) :: starEach es X.env := by rfl) : SA X E (a :: es) (consA ma mr) := PA.imp (pa_cons ha hr hs) (by
  rintro σ H Q ⟨μ, env, s, hv, hs, post⟩
  refine ⟨μ, env, s, hv, hs, (Post.bind post).mono fun x s1 μ1 H1 g1 hs1 p1 v hx => ?_⟩
  refine ⟨μ1, env, s1, hv.grow g1, hs1, (Post.bind p1).mono fun ds s2 μ2 H2 g2 hs2 p2 vs hl => ?_⟩
  exact Post.now p2 hs2 (v :: vs) (.cons (Rep.grow g2 x v hx) hl))
theorem se_tup {k} (h : SA X E es mr) : SE X E (.Tuple es k pos) (tupM mr) := PE.imp (pe_tup h) (by
  rintro σ H Q ⟨μ, env, s, hv, hs, post⟩
  refine ⟨μ, env, s, hv, hs, (Post.bind post).mono fun ds s1 μ1 H1 g1 hs1 p1 vs hl => ?_⟩
  split at p1
  · rename_i hz
    exact ⟨by rw [hl.length]; exact sz_ok hz, post_tup hs1 hl p1⟩
  · exact (show False from p1).elim)
theorem se_lst (h : SA X E es mr) : SE X E (.List es pos) (lstM mr) := PE.imp (pe_lst h) (by
  rintro σ H Q ⟨μ, env, s, hv, hs, post⟩
  refine ⟨μ, env, s, hv, hs, (Post.bind post).mono fun ds s1 μ1 H1 g1 hs1 p1 vs hl => ?_⟩
  split at p1
  · rename_i hz
    exact ⟨by rw [hl.length]; exact sz_ok hz, post_alloc hs1 hl p1⟩
  · exact (show False from p1).elim)

theorem se_lstF (h : SA X E es mr) : SE X E (.List es pos) (lstF mr) := PE.imp (pe_lst h) (by
  rintro σ H Q ⟨μ, env, s, hv, hs, post⟩
  refine ⟨μ, env, s, hv, hs, (Post.bind post).mono fun ds s1 μ1 H1 g1 hs1 p1 vs hl => ?_⟩
  split at p1
  · rename_i hz
    exact ⟨by rw [hl.length]; exact sz_ok hz, post_vls hs1 hl p1⟩
  · exact (show False from p1).elim)

/-! ### subscripts -/
theorem se_ix (hu : X.A.units + 1 < cLine) (ha : SE X E a ma) (hb : SE X E b mb) (h : PlainIx b) : SE X E (.Subscript a b pos) (binM ixD ma mb) := PE.imp (PE.or (pe_ix ix_seq ha hb h) (pe_dget hu ha hb h)) (by
  rintro σ H Q ⟨μ, env, s, hv, hs, post⟩
  by_cases hd : ∃ n s1 y s2 kvs, ma env s = .ok (.ptr n) s1 ∧ mb env s1 = .ok y s2 ∧ (s2[n]? = some (Cell.dK kvs) ∨ s2[n]? = some (Cell.fK kvs))
  · right
    obtain ⟨n, s1, y, s2, kvs, e1, e2, e4⟩ := hd
    have e3 : binM ixD ma mb env s = ixD (.ptr n) y s2 := (bind_ok e1).trans (bind_ok e2)
    rw [e3] at post
    refine ⟨μ, env, s, hv, hs, ?_⟩
    rw [e1]
    intro μ1 H1 g1 hs1 v hx
    cases hx with
    | ptr hn =>
      refine ⟨μ1, env, s1, hv.grow g1, hs1, ?_⟩
      rw [e2]
      intro μ2 H2 g2 hs2 u hy
      obtain ⟨xs, h1, h2⟩ := cell_rdK hs2 (g2.at hn) e4
      have post : Post X.K E μ H (ixK kvs y s2) (okD X.K Q) := by
        rcases e4 with e4 | e4 <;> (unfold ixD at post; simp only [e4] at post; exact post)
      unfold ixK at post
      cases ek : dKey y with
      | none => rw [ek] at post; exact (show False from post).elim
      | some k =>
        rw [ek] at post
        cases ev : valD kvs k with
        | none => simp only [ev] at post; exact (show False from post).elim
        | some d =>
          simp only [ev] at post
          obtain ⟨w, hw, rw'⟩ := lmap_fst h2 ev
          have eu := dKey_rep ek hy
          subst eu
          exact ⟨_, w, rfl, by rw [← hw]; exact .inl ⟨_, _, h1, rfl, rfl⟩, post_val hs2 (Post.later (g1.trans g2) post) rw'⟩
  · left
    have e0 : binM ixD ma mb env s = (ma env >>= fun x => mb env >>= fun y => ixD x y) s := rfl
    rw [e0] at post
    refine ⟨μ, env, s, hv, hs, ?_⟩
    cases e1 : ma env s with
    | stuck => rw [bind_run, e1] at post; exact (show False from post).elim
    | exc c s1 => rw [bind_exc e1] at post; exact post
    | ok x s1 =>
      rw [bind_ok e1] at post
      intro μ1 H1 g1 hs1 v hx
      refine ⟨μ1, env, s1, hv.grow g1, hs1, ?_⟩
      cases e2 : mb env s1 with
      | stuck => rw [bind_run, e2] at post; exact (show False from post).elim
      | exc c s2 => rw [bind_exc e2] at post; exact Post.later g1 post
      | ok y s2 =>
        rw [bind_ok e2] at post
        intro μ2 H2 g2 hs2 u hy
        have post2 := Post.later (g1.trans g2) post
        have hx2 := Rep.grow g2 x v hx
        clear post
        have seq : ∀ {ds : List D} {xs : List V}, RepL X.K μ2 H2 xs ds → Post X.K E μ2 H2 (ixS ds y s2) (okD X.K Q) → ∃ i w, u = .int i ∧ atI xs i = some w ∧ Q w H2 := by
          intro ds xs hl p2
          unfold ixS at p2
          cases hy with
          | int i =>
            cases ei : atI ds i with
            | none => simp only [ei] at p2; exact (show False from p2).elim
            | some d =>
              simp only [ei] at p2
              obtain ⟨w, hw, rw'⟩ := atI_rep hl ei
              exact ⟨i, w, rfl, hw, post_val hs2 p2 rw'⟩
          | _ => exact (show False from p2).elim
        unfold ixD at post2
        cases hx2 with
        | tup ht hl =>
          obtain ⟨i, w, rfl, hw, q⟩ := seq hl post2
          exact .inr (.inl ⟨_, _, i, w, rfl, rfl, ht, hw, q⟩)
        | flst ht hl =>
          obtain ⟨i, w, rfl, hw, q⟩ := seq hl post2
          exact .inl ⟨_, _, i, w, rfl, rfl, ht.sqL, hw, q⟩
        | vls ht hl =>
          obtain ⟨i, w, rfl, hw, q⟩ := seq hl post2
          exact .inl ⟨_, _, i, w, rfl, rfl, ht.sqL, hw, q⟩
        | str z =>
          cases hy with
          | int i =>
            simp only [] at post2
            split at post2
            · rename_i hz
              cases ei : atI z.cps.toList i with
              | none => simp only [ei] at post2; exact (show False from post2).elim
              | some d =>
                simp only [ei] at post2
                exact .inr (.inr ⟨_, i, d, rfl, rfl, sz_ok hz, ei, post_val hs2 post2 (.str _)⟩)
            · exact (show False from post2).elim
          | _ => exact (show False from post2).elim
        | @ptr p n hn =>
          cases ec : s2[n]? with
          | none => simp only [ec] at post2; exact (show False from post2).elim
          | some cl =>
            simp only [ec] at post2
            cases cl with
            | lst ds =>
              obtain ⟨xs, h1, hl⟩ := cell_lst hs2 hn ec
              obtain ⟨i, w, rfl, hw, q⟩ := seq hl post2
              exact .inl ⟨_, _, i, w, rfl, rfl, SqL.of h1, hw, q⟩
            | dK kvs => exact (hd ⟨n, s1, y, s2, kvs, e1, e2, .inl ec⟩).elim
            | dT kvs => exact (show False from post2).elim
            | dN kvs => exact (show False from post2).elim
            | fN kvs => exact (show False from post2).elim
            | ins C fs => exact (show False from post2).elim
            | fK kvs => exact (hd ⟨n, s1, y, s2, kvs, e1, e2, .inr ec⟩).elim
        | _ => exact (show False from post2).elim)

/-! ### calls -/
theorem te_call {K : PySem.W.Frag} {r : List V → Hp → VK → Prop} {h : List D → M D} (hr : ∀ xs H Q, RLof K E h xs H Q → r xs H Q) : ∀ σ H Q, TEof K E (callM h mr) σ H Q → tCB r (TAof K E mr) σ H Q := by
  rintro σ H Q ⟨μ, env, s, hv, hs, post⟩
  refine ⟨μ, env, s, hv, hs, (Post.bind post).mono fun ds s1 μ1 H1 g1 hs1 p1 vs hl => ?_⟩
  exact hr _ _ _ ⟨μ1, s1, ds, hs1, hl, p1⟩
theorem se_callB {x : Str} {p : Pos} {id : String} {h : List D → M D} (hc : CallR X (.builtin id) (RLof X.K E h)) (hg : Gl X x) (hm : X.mg x = none) (hv : bootBuiltins x = some (.builtin id)) (ha : SA X E (e :: es) mr) (hn : x ≠ "__name__" := by decide) (hdb : (x == ("__debug__" : Str)) = false := by decide)
    (he : starEach (e :: es) X.env = (false, eval e X.env) :: starEach es X.env := by rfl) (hpl : (backTo pos (starEach es X.env)).any (·.1) = false := by rfl) :
    SE X E (.Call (.Name x p) (e :: es) [] pos) (callM h mr) := PE.imp (pe_callB hc hg hm hv ha hn hdb he hpl) (te_call fun _ _ _ h => h)
theorem se_callTy {x : Str} {p : Pos} {T : String} {h : List D → M D} (hc : CallR X (.type T) (RLof X.K E h)) (hg : Gl X x) (hm : X.mg x = none) (hv : bootBuiltins x = some (.type T)) (ha : SA X E (e :: es) mr) (hn : x ≠ "__name__" := by decide) (hdb : (x == ("__debug__" : Str)) = false := by decide)
    (he : starEach (e :: es) X.env = (false, eval e X.env) :: starEach es X.env := by rfl) (hpl : (backTo pos (starEach es X.env)).any (·.1) = false := by rfl) :
    SE X E (.Call (.Name x p) (e :: es) [] pos) (callM h mr) := PE.imp (pe_callTy hc hg hm hv ha hn hdb he hpl) (te_call fun _ _ _ h => h)
theorem se_callBfun {x : Str} {p : Pos} {id : String} {h : List D → M D} (hc : CallR X (.builtin id) (RLof X.K E h)) (hg : Gl X x) (hm : X.mg x = some (.builtin id)) (ha : SA X E (e :: es) mr) (hdb : (x == ("__debug__" : Str)) = false := by decide)
    (he : starEach (e :: es) X.env = (false, eval e X.env) :: starEach es X.env := by rfl) (hpl : (backTo pos (starEach es X.env)).any (·.1) = false := by rfl) :
    SE X E (.Call (.Name x p) (e :: es) [] pos) (callM h mr) := PE.imp (pe_callBfun hc hg hm ha hdb he hpl) (te_call fun _ _ _ h => h)
/-- a def's promise by a mirror -/
def spM (K : PySem.W.Frag) (n : Nat) (F : List D → M D) : Sp := fun vs H Q E => ∃ μ s ds, SimS K μ H s ∧ RepL K μ H vs ds ∧ ds.length = n ∧ Post K E μ H (F ds s) (okD K Q)
def lenM (n : Nat) (F : List D → M D) (ds : List D) : M D := if ds.length = n then F ds else stuck
theorem te_own {K : PySem.W.Frag} {n : Nat} {F : List D → M D} : ∀ σ H Q, TEof K E (callM (lenM n F) mr) σ H Q → tCall (spM K n F) [] E (TAof K E mr) σ H Q := by
  rintro σ H Q ⟨μ, env, s, hv, hs, post⟩
  refine ⟨μ, env, s, hv, hs, (Post.bind post).mono fun ds s1 μ1 H1 g1 hs1 p1 vs hl => ?_⟩
  unfold lenM at p1
  split at p1
  · rename_i hn
    rw [List.append_nil]
    exact ⟨μ1, s1, ds, hs1, hl, hn, p1⟩
  · exact (show False from p1).elim
theorem se_call {CX : CXT} {k n : Nat} {fa : Addr} {fd : FuncData} {ps : List Str} {F : List D → M D} {x : Str} {p : Pos} (G : FnOk X.prog X.w X.K X.mg X.base CX k fa fd ps (spM X.K n F)) (hr : Room k X.A) (hg : Gl X x) (hm : X.mg x = some (.ref fa)) (hk : PySem.W.keepIn X.K (.ref fa) = true) (hb : Binds X.K fd ps []) (hx : Passes CX X E)
    (ha : SA X E (e :: es) mr) (hdb : (x == ("__debug__" : Str)) = false := by decide) (he : starEach (e :: es) X.env = (false, eval e X.env) :: starEach es X.env := by rfl) (hpl : (backTo pos (starEach es X.env)).any (·.1) = false := by rfl) :
    SE X E (.Call (.Name x p) (e :: es) [] pos) (callM (lenM n F) mr) := PE.imp (pe_call G hr hg hm hk hb .nil hx ha hdb he hpl) te_own
theorem se_call0 {CX : CXT} {k n : Nat} {fa : Addr} {fd : FuncData} {ps : List Str} {F : List D → M D} {x : Str} {p : Pos} (G : FnOk X.prog X.w X.K X.mg X.base CX k fa fd ps (spM X.K n F)) (hr : Room k X.A) (hg : Gl X x) (hm : X.mg x = some (.ref fa)) (hk : PySem.W.keepIn X.K (.ref fa) = true) (hb : Binds X.K fd ps []) (hx : Passes CX X E)
    (hdb : (x == ("__debug__" : Str)) = false := by decide) : SE X E (.Call (.Name x p) [] [] pos) (callM (lenM n F) nilA) := PE.imp (pe_call0 G hr hg hm hk hb .nil hx hdb) (by
  intro σ H Q h
  obtain ⟨μ, env, s, hv, hs, q⟩ := te_own σ H Q h
  exact Post.now q hs [] .nil)
end

/-! ### built-in functions -/
def fun1 (f : D → M D) (ds : List D) : M D := match ds with
  | [d] => f d
  | _ => stuck
def fun2 (f : D → D → M D) (ds : List D) : M D := match ds with
  | [d, e] => f d e
  | _ => stuck
def lenD (d : D) : M D := match d with
  | .tup ds => pure (.int ds.length)
  | .flst ds => pure (.int ds.length)
  | .vls ds => pure (.int ds.length)
  | .str x => if x.length ≤ 100000 then pure (.int x.length) else stuck
  | .ptr n => fun s => match s[n]? with
    | some (.lst ds) => .ok (.int ds.length) s
    | some (.dK kvs) => .ok (.int kvs.length) s
    | _ => .stuck
  | _ => stuck
def intD (d : D) : M D := match d with
  | .int i => pure (.int i)
  | .bl k => pure (.int (if k then 1 else 0))
  | _ => stuck
def absD (d : D) : M D := match d with
  | .int i => pure (.int (if i < 0 then -i else i))
  | _ => stuck
def int2 (f : Int → Int → D) (d e : D) : M D := match d with
  | .int i => (match e with
    | .int j => pure (f i j)
    | _ => stuck)
  | _ => stuck
def min2D : D → D → M D := int2 fun i j => .int (if j < i then j else i)
def max2D : D → D → M D := int2 fun i j => .int (if j > i then j else i)
def gcdD : D → D → M D := int2 fun i j => .int ((Nat.gcd i.natAbs j.natAbs : Nat) : Int)
def listD (d : D) : M D := match d with
  | .tup ds => allocC (.lst ds)
  | .flst ds => allocC (.lst ds)
  | .vls ds => allocC (.lst ds)
  | .ptr n => fun s => match s[n]? with
    | some (.lst ds) => allocC (.lst ds) s
    | _ => .stuck
  | _ => stuck
/-- list(x), whose answer nobody writes -/
def listF (d : D) : M D := match d with
  | .tup ds => pure (.vls ds)
  | .flst ds => pure (.vls ds)
  | .vls ds => pure (.vls ds)
  | .ptr n => fun s => match s[n]? with
    | some (.lst ds) => .ok (.vls ds) s
    | _ => .stuck
  | _ => stuck
def tupleD (d : D) : M D := match d with
  | .tup ds => pure (.tup ds)
  | .flst ds => pure (.tup ds)
  | .vls ds => pure (.tup ds)
  | .ptr n => fun s => match s[n]? with
    | some (.lst ds) => .ok (.tup ds) s
    | _ => .stuck
  | _ => stuck
def dBls : List D → Option (List Bool)
  | [] => some []
  | .bl b :: r => (dBls r).map (b :: ·)
  | _ :: _ => none
def seqD (s : S) : D → Option (List D)
  | .flst ds => some ds
  | .vls ds => some ds
  | .ptr n => match s[n]? with
    | some (.lst ds) => some ds
    | _ => none
  | _ => none
def allD (x : D) : M D := fun s => match seqD s x with
    | some ds => (match dBls ds with
      | some bs => .ok (.bl (bs.all id)) s
      | none => .stuck)
    | none => .stuck
def anyD (x : D) : M D := fun s => match seqD s x with
    | some ds => (match dBls ds with
      | some bs => .ok (.bl (bs.any id)) s
      | none => .stuck)
    | none => .stuck
theorem seqD_rep {K : PySem.W.Frag} {μ : Mu} {H : Hp} {s : S} {x : D} {v : V} {ds : List D} (hs : SimS K μ H s) (r : Rep K μ H v x) (e : seqD s x = some ds) : ∃ a xs, v = .ref a ∧ SqL K H a xs ∧ RepL K μ H xs ds := by
  cases r with
  | @flst a xs es h l =>
    cases e
    exact ⟨a, xs, rfl, h.sqL, l⟩
  | @vls a xs es h l =>
    cases e
    exact ⟨a, xs, rfl, h.sqL, l⟩
  | @ptr a n h =>
    unfold seqD at e
    simp only [] at e
    split at e
    · rename_i es hd
      cases e
      obtain ⟨xs, h1, l⟩ := cell_lst hs h hd
      exact ⟨a, xs, rfl, SqL.of h1, l⟩
    · cases e
  | _ => cases e
theorem dBls_rep {K : PySem.W.Frag} {μ : Mu} {H : Hp} : ∀ {ds : List D} {xs : List V} {bs : List Bool}, dBls ds = some bs → RepL K μ H xs ds → xs = bs.map V.bl
  | [], _, bs, e, .nil => by
    unfold dBls at e
    cases e
    rfl
  | .bl i :: r, _, bs, e, .cons h t => by
    unfold dBls at e
    cases q : dBls r with
    | none => rw [q] at e; cases e
    | some ms =>
      rw [q] at e
      cases e
      cases h
      rw [dBls_rep q t]
      rfl
  | .non :: r, _, bs, e, _ => by unfold dBls at e; cases e
  | .int _ :: r, _, bs, e, _ => by unfold dBls at e; cases e
  | .str _ :: r, _, bs, e, _ => by unfold dBls at e; cases e
  | .tup _ :: r, _, bs, e, _ => by unfold dBls at e; cases e
  | .flst _ :: r, _, bs, e, _ => by unfold dBls at e; cases e
  | .vls _ :: r, _, bs, e, _ => by unfold dBls at e; cases e
  | .ptr _ :: r, _, bs, e, _ => by unfold dBls at e; cases e
section
variable {X : Cx} {E : XK}
theorem repL1 {K : PySem.W.Frag} {μ : Mu} {H : Hp} {xs : List V} {d : D} (h : RepL K μ H xs [d]) : ∃ v, xs = [v] ∧ Rep K μ H v d := by
  cases h with
  | cons r t => cases t; exact ⟨_, rfl, r⟩
theorem repL2 {K : PySem.W.Frag} {μ : Mu} {H : Hp} {xs : List V} {d e : D} (h : RepL K μ H xs [d, e]) : ∃ v w, xs = [v, w] ∧ Rep K μ H v d ∧ Rep K μ H w e := by
  cases h with
  | cons r t =>
    obtain ⟨w, rfl, q⟩ := repL1 t
    exact ⟨_, w, rfl, r, q⟩
theorem CallR.imp {f : Value} {r r' : List V → Hp → VK → Prop} (h : CallR X f r) (k : ∀ xs H Q, r' xs H Q → r xs H Q) : CallR X f r' := fun pins s σ H xs us Q I rr q => h pins s σ H xs us Q I rr (k _ _ _ q)
theorem rl_1 {K : PySem.W.Frag} {g : D → M D} {r : List V → Hp → VK → Prop} (h : ∀ μ s d v H Q, SimS K μ H s → Rep K μ H v d → Post K E μ H (g d s) (okD K Q) → r [v] H Q) : ∀ xs H Q, RLof K E (fun1 g) xs H Q → r xs H Q := by
  rintro xs H Q ⟨μ, s, ds, hs, hl, post⟩
  cases hl with
  | nil => exact (show False from post).elim
  | cons a t =>
    cases t with
    | nil => exact h μ s _ _ H Q hs a post
    | cons b t => exact (show False from post).elim
theorem rl_2 {K : PySem.W.Frag} {g : D → D → M D} {r : List V → Hp → VK → Prop} (h : ∀ μ s d e v w H Q, SimS K μ H s → Rep K μ H v d → Rep K μ H w e → Post K E μ H (g d e s) (okD K Q) → r [v, w] H Q) : ∀ xs H Q, RLof K E (fun2 g) xs H Q → r xs H Q := by
  rintro xs H Q ⟨μ, s, ds, hs, hl, post⟩
  cases hl with
  | nil => exact (show False from post).elim
  | cons a t =>
    cases t with
    | nil => exact (show False from post).elim
    | cons b t =>
      cases t with
      | nil => exact h μ s _ _ _ _ H Q hs a b post
      | cons c t => exact (show False from post).elim
theorem cr_int : CallR X (.type "int") (RLof X.K E (fun1 intD)) := CallR.imp call_int1 (rl_1 fun μ s d v H Q hs r post => by
  cases r with
  | int i => exact .inl ⟨_, rfl, post_int hs post⟩
  | bl k => exact .inr ⟨_, rfl, post_int hs post⟩
  | _ => exact (show False from post).elim)
theorem cr_abs : CallR X (.builtin "abs") (RLof X.K E (fun1 absD)) := CallR.imp call_abs (rl_1 fun μ s d v H Q hs r post => by
  cases r with
  | int i => exact ⟨_, rfl, post_int hs post⟩
  | _ => exact (show False from post).elim)
theorem int2_rep {K : PySem.W.Frag} {f : Int → Int → D} {μ : Mu} {s : S} {d e : D} {v w : V} {H : Hp} {Q : VK} (hs : SimS K μ H s) (r : Rep K μ H v d) (r' : Rep K μ H w e) (post : Post K E μ H (int2 f d e s) (okD K Q)) : ∃ i j, v = .int i ∧ w = .int j ∧ Post K E μ H (.ok (f i j) s) (okD K Q) := by
  cases r with
  | int i =>
    cases r' with
    | int j => exact ⟨i, j, rfl, rfl, post⟩
    | _ => exact (show False from post).elim
  | _ => exact (show False from post).elim
theorem cr_min2 (hc : X.calm = true) : CallR X (.builtin "min") (RLof X.K E (fun2 min2D)) := CallR.imp (call_min2 hc) (rl_2 fun μ s d e v w H Q hs r r' post => by
  obtain ⟨i, j, rfl, rfl, p⟩ := int2_rep hs r r' post
  exact ⟨i, j, rfl, post_int hs p⟩)
theorem cr_max2 (hc : X.calm = true) : CallR X (.builtin "max") (RLof X.K E (fun2 max2D)) := CallR.imp (call_max2 hc) (rl_2 fun μ s d e v w H Q hs r r' post => by
  obtain ⟨i, j, rfl, rfl, p⟩ := int2_rep hs r r' post
  exact ⟨i, j, rfl, post_int hs p⟩)
theorem cr_gcdD : CallR X (.builtin "math.gcd") (RLof X.K E (fun2 gcdD)) := CallR.imp cr_gcd (rl_2 fun μ s d e v w H Q hs r r' post => by
  obtain ⟨i, j, rfl, rfl, p⟩ := int2_rep hs r r' post
  exact ⟨i, j, rfl, post_int hs p⟩)
theorem cr_len : CallR X (.builtin "len") (RLof X.K E (fun1 lenD)) := CallR.imp (CallR.or call_len_seq (CallR.or call_len_str call_lenD)) (rl_1 fun μ s d v H Q hs r post => by
  unfold lenD at post
  cases r with
  | tup ht hl => exact .inl ⟨_, _, rfl, .inr ht, by rw [hl.length]; exact post_int hs post⟩
  | flst ht hl => exact .inl ⟨_, _, rfl, .inl ht.sqL, by rw [hl.length]; exact post_int hs post⟩
  | vls ht hl => exact .inl ⟨_, _, rfl, .inl ht.sqL, by rw [hl.length]; exact post_int hs post⟩
  | str x =>
    simp only [] at post
    split at post
    · rename_i hz
      exact .inr (.inl ⟨_, rfl, sz_ok hz, post_int hs post⟩)
    · exact (show False from post).elim
  | @ptr a n hn =>
    cases ec : s[n]? with
    | none => simp only [ec] at post; exact (show False from post).elim
    | some cl =>
      simp only [ec] at post
      cases cl with
      | lst es =>
        obtain ⟨ys, h1, h2⟩ := cell_lst hs hn ec
        exact .inl ⟨_, _, rfl, .inl (SqL.of h1), by rw [h2.length]; exact post_int hs post⟩
      | dK kvs =>
        obtain ⟨ys, h1, h2⟩ := cell_dK hs hn ec
        have e : ys.length = kvs.length := by
          have := congrArg List.length h2.1
          rw [List.length_map, List.length_map] at this
          exact this
        exact .inr (.inr ⟨_, _, rfl, h1, by rw [e]; exact post_int hs post⟩)
      | dT kvs => exact (show False from post).elim
      | dN kvs => exact (show False from post).elim
      | fN kvs => exact (show False from post).elim
      | ins C fs => exact (show False from post).elim
      | fK kvs => exact (show False from post).elim
  | _ => exact (show False from post).elim)
theorem cr_list : CallR X (.type "list") (RLof X.K E (fun1 listD)) := CallR.imp call_list_of (rl_1 fun μ s d v H Q hs r post => by
  unfold listD at post
  cases r with
  | tup ht hl => exact ⟨_, _, rfl, .inr ht, post_alloc hs hl post⟩
  | flst ht hl => exact ⟨_, _, rfl, .inl ht.sqL, post_alloc hs hl post⟩
  | vls ht hl => exact ⟨_, _, rfl, .inl ht.sqL, post_alloc hs hl post⟩
  | @ptr a n hn =>
    cases ec : s[n]? with
    | none => simp only [ec] at post; exact (show False from post).elim
    | some cl =>
      simp only [ec] at post
      cases cl with
      | lst es =>
        obtain ⟨ys, h1, h2⟩ := cell_lst hs hn ec
        exact ⟨_, _, rfl, .inl (SqL.of h1), post_alloc hs h2 post⟩
      | _ => exact (show False from post).elim
  | _ => exact (show False from post).elim)
theorem cr_listF : CallR X (.type "list") (RLof X.K E (fun1 listF)) := CallR.imp call_list_of (rl_1 fun μ s d v H Q hs r post => by
  unfold listF at post
  cases r with
  | tup ht hl => exact ⟨_, _, rfl, .inr ht, post_vls hs hl post⟩
  | flst ht hl => exact ⟨_, _, rfl, .inl ht.sqL, post_vls hs hl post⟩
  | vls ht hl => exact ⟨_, _, rfl, .inl ht.sqL, post_vls hs hl post⟩
  | @ptr a n hn =>
    cases ec : s[n]? with
    | none => simp only [ec] at post; exact (show False from post).elim
    | some cl =>
      simp only [ec] at post
      cases cl with
      | lst es =>
        obtain ⟨ys, h1, h2⟩ := cell_lst hs hn ec
        exact ⟨_, _, rfl, .inl (SqL.of h1), post_vls hs h2 post⟩
      | _ => exact (show False from post).elim
  | _ => exact (show False from post).elim)
theorem cr_tuple : CallR X (.type "tuple") (RLof X.K E (fun1 tupleD)) := CallR.imp call_tuple_of (rl_1 fun μ s d v H Q hs r post => by
  unfold tupleD at post
  cases r with
  | tup ht hl => exact ⟨_, _, rfl, .inr ⟨ht, post_val hs post (.tup ht hl)⟩⟩
  | flst ht hl => exact ⟨_, _, rfl, .inl ⟨ht.sqL, post_tup hs hl post⟩⟩
  | vls ht hl => exact ⟨_, _, rfl, .inl ⟨ht.sqL, post_tup hs hl post⟩⟩
  | @ptr a n hn =>
    cases ec : s[n]? with
    | none => simp only [ec] at post; exact (show False from post).elim
    | some cl =>
      simp only [ec] at post
      cases cl with
      | lst es =>
        obtain ⟨ys, h1, h2⟩ := cell_lst hs hn ec
        exact ⟨_, _, rfl, .inl ⟨SqL.of h1, post_tup hs h2 post⟩⟩
      | _ => exact (show False from post).elim
  | _ => exact (show False from post).elim)
theorem cr_allD (hc : X.calm = true) : CallR X (.builtin "all") (RLof X.K E (fun1 allD)) := CallR.imp (cr_all hc) (rl_1 fun μ s d v H Q hs r post => by
  unfold allD at post
  cases e1 : seqD s d with
  | none => simp only [e1] at post; exact (show False from post).elim
  | some ds =>
    cases e2 : dBls ds with
    | none => simp only [e1, e2] at post; exact (show False from post).elim
    | some bs =>
      simp only [e1, e2] at post
      obtain ⟨a, xs, rfl, h1, h2⟩ := seqD_rep hs r e1
      rw [dBls_rep e2 h2] at h1
      exact ⟨a, bs, rfl, h1, post_bl hs post⟩)
theorem cr_anyD (hc : X.calm = true) : CallR X (.builtin "any") (RLof X.K E (fun1 anyD)) := CallR.imp (cr_any hc) (rl_1 fun μ s d v H Q hs r post => by
  unfold anyD at post
  cases e1 : seqD s d with
  | none => simp only [e1] at post; exact (show False from post).elim
  | some ds =>
    cases e2 : dBls ds with
    | none => simp only [e1, e2] at post; exact (show False from post).elim
    | some bs =>
      simp only [e1, e2] at post
      obtain ⟨a, xs, rfl, h1, h2⟩ := seqD_rep hs r e1
      rw [dBls_rep e2 h2] at h1
      exact ⟨a, bs, rfl, h1, post_bl hs post⟩)
end

/-! ### isinstance -/
def tyNm (s : S) : D → Option String
  | .non => some "NoneType"
  | .bl _ => some "bool"
  | .int _ => some "int"
  | .str _ => some "str"
  | .tup _ => some "tuple"
  | .flst _ => some "list"
  | .vls _ => some "list"
  | .ptr n => (match s[n]? with
    | some (.lst _) => some "list"
    | some (.dK _) => some "dict"
    | some (.dT _) => some "dict"
    | _ => none)
  | .rng _ _ _ => none
def isiD (T : String) (d : D) : M D := fun s => match tyNm s d with
  | some t => (match kitB t T with
    | some b => .ok (.bl b) s
    | none => .stuck)
  | none => .stuck
theorem tyNm_rep {K : PySem.W.Frag} {μ : Mu} {H : Hp} {s : S} {d : D} {v : V} {t : String} (hs : SimS K μ H s) (r : Rep K μ H v d) (e : tyNm s d = some t) : TyX K H v (.type t) := by
  unfold tyNm at e
  cases r with
  | non => cases e; exact .base .non
  | bl b => cases e; exact .base (.bl b)
  | int i => cases e; exact .base (.int i)
  | str x => cases e; exact .base (.str x)
  | tup ht hl =>
    cases e
    rcases ht with (h | ⟨o, h⟩) | ⟨o, its, n, hk, hc, _⟩
    · exact .base (.tup h)
    · exact .fTuple h
    · exact .kTuple hk hc
  | flst ht hl =>
    cases e
    rcases ht with ⟨o, h⟩ | ⟨o, its, n, hk, hc, _⟩
    · exact .base (.frz h)
    · exact .kList hk hc
  | vls ht hl =>
    cases e
    exact .base (.lst ht.at_)
  | rng _ => cases e
  | @ptr a n hn =>
    cases ec : s[n]? with
    | none => simp only [ec] at e; cases e
    | some cl =>
      simp only [ec] at e
      cases cl with
      | lst es =>
        obtain ⟨ys, h1, h2⟩ := cell_lst hs hn ec
        cases e
        exact .base (.lst h1)
      | dK kvs =>
        obtain ⟨ys, h1, h2⟩ := cell_dK hs hn ec
        cases e
        exact .base (.dK h1)
      | dT kvs =>
        obtain ⟨b, hb, ys, h1, h2⟩ := hs.cell n _ ec
        rw [hn] at hb
        cases hb
        cases e
        exact .base (.dT h1)
      | ins C fs => cases e
      | fK kvs => cases e
      | dN kvs => cases e
      | fN kvs => cases e
section
variable {X : Cx} {E : XK} {a : Expr} {ma : Env → M D} {pos p pT : Pos}
theorem se_isi {T : Str} {Ts : String} (ha : SE X E a ma) (hg : Gl X "isinstance") (hm : X.mg "isinstance" = none) (hgT : Gl X T) (hmT : X.mg T = none) (hvT : bootBuiltins T = some (.type Ts)) (hn : T ≠ "__name__" := by decide) (hd : (T == ("__debug__" : Str)) = false := by decide)
    (hb : bootBuiltins "isinstance" = some (.builtin "isinstance") := by decide +kernel)
    (he : starEach [a, .Name T pT] X.env = (false, eval a X.env) :: starEach [.Name T pT] X.env := by rfl) :
    SE X E (.Call (.Name "isinstance" p) [a, .Name T pT] [] pos) (unM (isiD Ts) ma) := by
  have hTy : PE X (.Name T pT) (tC (.ty Ts)) := pe_bltn hgT hmT hvT rfl hn hd
  refine PE.imp (pe_callB call_isi hg hm hb (pa_cons ha (pa_cons hTy pa_nil) he) (by decide) (by decide) he rfl) ?_
  rintro σ H Q ⟨μ, env, s, hv, hs, post⟩
  refine ⟨μ, env, s, hv, hs, (Post.bind post).mono fun x s1 μ1 H1 g1 hs1 p1 v hx => ?_⟩
  unfold isiD at p1
  cases e1 : tyNm s1 x with
  | none => simp only [e1] at p1; exact (show False from p1).elim
  | some t =>
    cases e2 : kitB t Ts with
    | none => simp only [e1, e2] at p1; exact (show False from p1).elim
    | some b =>
      simp only [e1, e2] at p1
      exact ⟨v, .ty Ts, .type t, .type Ts, b, rfl, .ty Ts, tyNm_rep hs1 hx e1, kit_ty e2, post_bl hs1 p1⟩
end
end PL

/-! PL4: targets, walks, comprehensions, statements, loops, a def. -/
namespace PL
open PySem PySem.Spec PyProof.Rows L2

/-! ### targets -/
def TGof (K : PySem.W.Frag) (E : XK) (g : D → Env → M Env) : TG := fun v σ H Q => ∃ μ env s d, SimV K μ H σ env ∧ SimS K μ H s ∧ Rep K μ H v d ∧ Post K E μ H (g d env s) (fun env' _ μ' H' => ∀ σ', SimV K μ' H' σ' env' → Q σ' H')
def TGsof (K : PySem.W.Frag) (E : XK) (g : List D → Env → M Env) : TGs := fun vs σ H Q => ∃ μ env s ds, SimV K μ H σ env ∧ SimS K μ H s ∧ RepL K μ H vs ds ∧ Post K E μ H (g ds env s) (fun env' _ μ' H' => ∀ σ', SimV K μ' H' σ' env' → Q σ' H')
def SG (X : Cx) (E : XK) (tg : Expr) (g : D → Env → M Env) : Prop := PG X tg (TGof X.K E g)
def SGs (X : Cx) (E : XK) (tgs : List Expr) (g : List D → Env → M Env) : Prop := PGs X tgs (TGsof X.K E g)
def gNm (i : Nat) (d : D) (env : Env) : M Env := pure (env.set i (some d))
def gNilM (ds : List D) (env : Env) : M Env := match ds with
  | [] => pure env
  | _ => stuck
def gConsM (g : D → Env → M Env) (gs : List D → Env → M Env) (ds : List D) (env : Env) : M Env := match ds with
  | [] => stuck
  | d :: r => g d env >>= fun env' => gs r env'
def gTupM (n : Nat) (gs : List D → Env → M Env) (d : D) (env : Env) : M Env := match d with
  | .tup ds => if ds.length = n then gs ds env else stuck
  | _ => stuck
theorem PG.imp {X : Cx} {e : Expr} {t t' : TG} (h : PG X e t) (f : ∀ v σ H Q, t' v σ H Q → t v σ H Q) : PG X e t' := ⟨fun pins s σ H v u Q I r q => h.run pins s σ H v u Q I r (f v σ H Q q)⟩
theorem PGs.imp {X : Cx} {e : List Expr} {t t' : TGs} (h : PGs X e t) (f : ∀ v σ H Q, t' v σ H Q → t v σ H Q) : PGs X e t' := ⟨fun pins s σ H vs us Q I r q => h.run pins s σ H vs us Q I r (f vs σ H Q q)⟩

/-! ### storing into a list, a dict -/
def putL (ds : List D) (y v : D) (n : Nat) : M Unit := match y with
  | .int i => (match ixN ds.length i with
    | some j => fun s => .ok () (s.set n (.lst (ds.set j v)))
    | none => stuck)
  | _ => stuck
/-- o[i] = v of a list -/
def setLD (o i v : D) : M Unit := match o with
  | .ptr n => fun s => match s[n]? with
    | some (.lst ds) => putL ds i v n s
    | _ => .stuck
  | _ => stuck
def gSubM (mo mi : Env → M D) (f : D → D → D → M Unit) (v : D) (env : Env) : M Env := mo env >>= fun o => mi env >>= fun i => f o i v >>= fun _ => pure env
section
variable {X : Cx} {E : XK} {e a b : Expr} {ma mb : Env → M D} {pos p : Pos}
theorem sg_name (i : Nat) {x : Str} (hN : X.N.Nodup) (hi : X.N[i]? = some x := by rfl) (hx : Loc X.env.scope x := by first | exact Or.inl rfl | exact Or.inr rfl) (hf : X.fn x = true ∨ X.env.scope.names.lookup x = some .local := by first | exact .inl rfl | exact .inr rfl | assumption) : SG X E (.Name x pos) (gNm i) := PG.imp (pg_name hN hi hx hf) (by
  rintro v σ H Q ⟨μ, env, s, d, hv, hs, r, post⟩
  exact Post.now (a := env.set i (some d)) post hs _ (hv.set r i))
theorem sgs_nil : SGs X E [] gNilM := PGs.imp pgs_nil (by
  rintro vs σ H Q ⟨μ, env, s, ds, hv, hs, r, post⟩
  cases r with
  | nil => exact ⟨rfl, Post.now (a := env) post hs _ hv⟩
  | cons _ _ => exact (show False from post).elim)
theorem sgs_cons {es : List Expr} {g : D → Env → M Env} {gs : List D → Env → M Env} (h1 : SG X E e g) (h2 : SGs X E es gs) (ha : (assignEach (e :: es) X.env).map (·.2) = assign e X.env :: (assignEach es X.env).map (·.2) := by rfl) : SGs X E (e :: es) (gConsM g gs) := PGs.imp (pgs_cons h1 h2 ha) (by
  rintro vs σ H Q ⟨μ, env, s, ds, hv, hs, r, post⟩
  cases r with
  | nil => exact (show False from post).elim
  | @cons v vs d ds r1 r2 =>
    refine ⟨v, vs, rfl, μ, env, s, d, hv, hs, r1, (Post.bind post).mono fun env1 s1 μ1 H1 g1 hs1 p1 σ1 hv1 => ?_⟩
    exact ⟨μ1, env1, s1, ds, hv1, hs1, RepL.grow g1 _ _ r2, p1⟩)
theorem sg_tup {es : List Expr} {k n : Nat} {gs : List D → Env → M Env} (hc : X.calm = true) (h : SGs X E es gs) (hn : (assignEach es X.env).length = n := by rfl) (hst : (assignEach es X.env).findIdx? (·.1) = none := by rfl) : SG X E (.Tuple es k pos) (gTupM n gs) := PG.imp (pg_tup hc h hn hst) (by
  rintro v σ H Q ⟨μ, env, s, d, hv, hs, r, post⟩
  cases r with
  | @tup a xs ds ht hl =>
    unfold gTupM at post
    simp only [] at post
    split at post
    · rename_i hn
      exact ⟨a, xs, rfl, ht, hl.length.trans hn, μ, env, s, ds, hv, hs, hl, post⟩
    · exact (show False from post).elim
  | _ => exact (show False from post).elim)
/-- a store by values: what it asks -/
theorem setL_ok {K : PySem.W.Frag} {μ : Mu} {H : Hp} {s : S} {o i v : D} {x y z : V} {q : Unit → S → Mu → Hp → Prop} (hs : SimS K μ H s) (ro : Rep K μ H x o) (ri : Rep K μ H y i) (rv : Rep K μ H z v) (post : Post K E μ H (setLD o i v s) q) :
    rSetL x y z H (fun H' => ∃ s', Grow μ H μ H' ∧ SimS K μ H' s' ∧ q () s' μ H') := by
  unfold setLD at post
  cases ro with
  | @ptr a n hn =>
    cases ec : s[n]? with
    | none => simp only [ec] at post; exact (show False from post).elim
    | some cl =>
      simp only [ec] at post
      cases cl with
      | lst ds =>
        obtain ⟨xs, h1, hl⟩ := cell_lst hs hn ec
        unfold putL at post
        cases ri with
        | int k =>
          cases ej : ixN ds.length k with
          | none => simp only [ej] at post; exact (show False from post).elim
          | some j =>
            simp only [ej] at post
            have hm : Mut (H a) := by rw [h1]; trivial
            have g := grow_put (μ := μ) (H := H) (a := a) (o := .lst (xs.set j z)) hm (List.mem_of_getElem? hn)
            have hs' : SimS K μ (upd H a (.lst (xs.set j z))) (s.set n (.lst (ds.set j v))) := hs.put hn hm ⟨_, upd_same, RepL.grow g _ _ (hl.set rv j)⟩
            exact ⟨a, xs, k, j, rfl, rfl, h1, by rw [hl.length]; exact ej, _, g, hs', post _ _ g hs'⟩
        | _ => exact (show False from post).elim
      | dK kvs => exact (show False from post).elim
      | dT kvs => exact (show False from post).elim
      | dN kvs => exact (show False from post).elim
      | fN kvs => exact (show False from post).elim
      | ins C fs => exact (show False from post).elim
      | fK kvs => exact (show False from post).elim
  | _ => exact (show False from post).elim
theorem sg_subL (ha : SE X E a ma) (hb : SE X E b mb) (hh : ∀ v, assign (.Subscript a b pos) X.env v = (do
      let ov ← holding [v] (eval a X.env)
      let iv ← holding [v, ov] (eval b X.env)
      standAt pos
      holding [v, ov, iv] (setItem ov iv v)
      release [v, ov, iv] []) := by intro _; rfl) : SG X E (.Subscript a b pos) (gSubM ma mb setLD) := PG.imp (pg_sub ha hb set_list hh) (by
  rintro v σ H Q ⟨μ, env, s, d, hv, hs, r, post⟩
  refine ⟨μ, env, s, hv, hs, (Post.bind post).mono fun o s1 μ1 H1 g1 hs1 p1 x hx => ?_⟩
  refine ⟨μ1, env, s1, hv.grow g1, hs1, (Post.bind p1).mono fun i s2 μ2 H2 g2 hs2 p2 y hy => ?_⟩
  obtain ⟨a, xs, k, j, e1, e2, h1, h2, s3, g3, hs3, q3⟩ := setL_ok hs2 (Rep.grow g2 o x hx) hy (Rep.grow (g1.trans g2) d v r) (Post.bind p2)
  exact ⟨a, xs, k, j, e1, e2, h1, h2, Post.now (a := env) q3 hs3 _ (((hv.grow g1).grow g2).grow g3)⟩)
end

/-! ### walks -/
/-- what is walked: the items; the cell that must stand still -/
structure Src where
  items : List D
  cell : Option (Nat × List D)
def Src.Ok (r : Src) (s : S) : Prop := match r.cell with
  | none => True
  | some (n, ds) => s[n]? = some (.lst ds)
def GoodIt (K : PySem.W.Frag) (μ0 : Mu) (H0 : Hp) (J : It) (r : Src) : Prop :=
  ∀ μ H s, GrowW μ0 H0 μ H → SimS K μ H s → r.Ok s →
    (∀ i d, r.items[i]? = some d → J.go i H ∧ ∀ x H', J.yld i H x H' → Grow μ H μ H' ∧ SimS K μ H' s ∧ Rep K μ H' x d) ∧ J.stop r.items.length H
def TIof (K : PySem.W.Frag) (E : XK) (m : Env → M Src) : TI := fun σ H R => ∃ μ env s, SimV K μ H σ env ∧ SimS K μ H s ∧ Post K E μ H (m env s) (fun r _ μ' H' => ∀ J, GoodIt K μ' H' J r → R J H')
def SI (X : Cx) (E : XK) (tg iter : Expr) (m : Env → M Src) : Prop := PI X tg iter (TIof X.K E m)
theorem PI.imp {X : Cx} {tg e : Expr} {t t' : TI} (h : PI X tg e t) (f : ∀ σ H Q, t' σ H Q → t σ H Q) : PI X tg e t' := ⟨fun pins s σ H R I q => h.run pins s σ H R I (f σ H R q)⟩
theorem PI.or {X : Cx} {tg e : Expr} {t t' : TI} (h : PI X tg e t) (h' : PI X tg e t') : PI X tg e (fun σ H Q => t σ H Q ∨ t' σ H Q) :=
  ⟨fun pins s σ H R I q => q.elim (fun q => h.run pins s σ H R I q) (fun q => h'.run pins s σ H R I q)⟩
/-- a list or a tuple -/
def signsOf (x : Str) : List D := x.cps.toList.map fun c => D.str ⟨#[c]⟩
def srcD (d : D) : M Src := match d with
  | .str x => pure ⟨signsOf x, none⟩
  | .tup ds => pure ⟨ds, none⟩
  | .flst ds => pure ⟨ds, none⟩
  | .vls ds => pure ⟨ds, none⟩
  | .ptr n => fun s => match s[n]? with
    | some (.lst ds) => .ok ⟨ds, some (n, ds)⟩ s
    | _ => .stuck
  | _ => stuck
def srcM (m : Env → M D) (env : Env) : M Src := m env >>= srcD
def rngItems (lo : Int) (n : Nat) : List D := (List.range n).map fun (i : Nat) => D.int (lo + (i : Int))
def rng1D (ds : List D) : M Src := match ds with
  | [.int j] => if -4000000000 ≤ j ∧ j ≤ 4000000000 then pure ⟨rngItems 0 j.toNat, none⟩ else stuck
  | _ => stuck
def rng2D (ds : List D) : M Src := match ds with
  | [.int i, .int j] => if (-4000000000 ≤ i ∧ i ≤ 4000000000) ∧ (-4000000000 ≤ j ∧ j ≤ 4000000000) then pure ⟨rngItems i (j - i).toNat, none⟩ else stuck
  | _ => stuck
def srcA (f : List D → M Src) (m : Env → M (List D)) (env : Env) : M Src := m env >>= f
theorem good_tup {K : PySem.W.Frag} {μ : Mu} {H : Hp} {a : Addr} {xs : List V} {ds : List D} (h : SqT K H a xs) (l : RepL K μ H xs ds) : GoodIt K μ H (Itt K a) ⟨ds, none⟩ := fun μ' H' s g hs _ => by
  have h' := g.sqT h
  have l' := RepL.growW g _ _ l
  refine ⟨fun i d e => ?_, xs, h', Nat.le_of_eq l.length⟩
  obtain ⟨v, hv, r⟩ := l'.get e
  refine ⟨⟨xs, v, h', hv⟩, fun x H2 y => ?_⟩
  obtain ⟨rfl, y⟩ := y
  have e2 : v = x := Option.some.inj (hv.symm.trans (y xs h'))
  subst e2
  exact ⟨Grow.refl _ _, hs, r⟩
theorem good_flst {K : PySem.W.Frag} {μ : Mu} {H : Hp} {a : Addr} {xs : List V} {ds : List D} (h : FrzL K H a xs) (l : RepL K μ H xs ds) : GoodIt K μ H (Itl K a) ⟨ds, none⟩ := fun μ' H' s g hs _ => by
  have h' := (g.frzL h).sqL
  have l' := RepL.growW g _ _ l
  refine ⟨fun i d e => ?_, xs, h', Nat.le_of_eq l.length⟩
  obtain ⟨v, hv, r⟩ := l'.get e
  refine ⟨⟨xs, v, h', hv⟩, fun x H2 y => ?_⟩
  obtain ⟨rfl, y⟩ := y
  have e2 : v = x := Option.some.inj (hv.symm.trans (y xs h'))
  subst e2
  exact ⟨Grow.refl _ _, hs, r⟩
theorem good_vls {K : PySem.W.Frag} {μ : Mu} {H : Hp} {a : Addr} {xs : List V} {ds : List D} (h : VlsL μ H a xs) (l : RepL K μ H xs ds) : GoodIt K μ H (Itl K a) ⟨ds, none⟩ := fun μ' H' s g hs _ => by
  have h' := (g.vls h).sqL (K := K)
  have l' := RepL.growW g _ _ l
  refine ⟨fun i d e => ?_, xs, h', Nat.le_of_eq l.length⟩
  obtain ⟨v, hv, r⟩ := l'.get e
  refine ⟨⟨xs, v, h', hv⟩, fun x H2 y => ?_⟩
  obtain ⟨rfl, y⟩ := y
  have e2 : v = x := Option.some.inj (hv.symm.trans (y xs h'))
  subst e2
  exact ⟨Grow.refl _ _, hs, r⟩
theorem good_lst {K : PySem.W.Frag} {μ : Mu} {H : Hp} {a : Addr} {n : Nat} {ds : List D} (h : μ.c[n]? = some a) : GoodIt K μ H (Itl K a) ⟨ds, some (n, ds)⟩ := fun μ' H' s g hs ok => by
  obtain ⟨xs, h1, l'⟩ := cell_lst hs (g.at h) ok
  have h' : SqL K H' a xs := SqL.of h1
  refine ⟨fun i d e => ?_, xs, h', Nat.le_of_eq l'.length⟩
  obtain ⟨v, hv, r⟩ := l'.get e
  refine ⟨⟨xs, v, h', hv⟩, fun x H2 y => ?_⟩
  obtain ⟨rfl, y⟩ := y
  have e2 : v = x := Option.some.inj (hv.symm.trans (y xs h'))
  subst e2
  exact ⟨Grow.refl _ _, hs, r⟩
theorem good_str {K : PySem.W.Frag} {μ : Mu} {H : Hp} {x : Str} : GoodIt K μ H (Its x) ⟨signsOf x, none⟩ := fun μ' H' s g hs _ => by
  have hl : (signsOf x).length = x.cps.size := by unfold signsOf; rw [List.length_map, Array.length_toList]
  refine ⟨fun i d e => ?_, Nat.le_of_eq hl.symm⟩
  have hi : i < x.cps.size := by rw [← hl]; exact (List.getElem?_eq_some_iff.mp e).1
  refine ⟨hi, fun v H2 y => ?_⟩
  obtain ⟨rfl, c, hc, rfl⟩ := y
  unfold signsOf at e
  rw [List.getElem?_map, Array.getElem?_toList, hc] at e
  cases e
  exact ⟨Grow.refl _ _, hs, .str _⟩
theorem good_rng {K : PySem.W.Frag} {μ : Mu} {H : Hp} {lo : Int} {n : Nat} : GoodIt K μ H (Itr lo n) ⟨rngItems lo n, none⟩ := fun μ' H' s g hs _ => by
  have hl : (rngItems lo n).length = n := by unfold rngItems; rw [List.length_map, List.length_range]
  refine ⟨fun i d e => ?_, Nat.le_of_eq hl.symm⟩
  have hi : i < n := by rw [← hl]; exact (List.getElem?_eq_some_iff.mp e).1
  refine ⟨hi, fun x H2 y => ?_⟩
  obtain ⟨rfl, rfl⟩ := y
  unfold rngItems at e
  rw [List.getElem?_map, List.getElem?_range hi] at e
  cases e
  exact ⟨Grow.refl _ _, hs, .int _⟩
section
variable {X : Cx} {E : XK} {e a b tg : Expr} {ma mb : Env → M D} {pos p : Pos} {es : List Expr} {mr : Env → M (List D)}
theorem si_seq (ha : SE X E a ma) : SI X E tg a (srcM ma) := PI.imp (PI.or (pi_list ha) (PI.or (pi_tup ha) (pi_str ha))) (by
  rintro σ H R ⟨μ, env, s, hv, hs, post⟩
  have post' : Post X.K E μ H ((ma env >>= srcD) s) (fun r _ μ' H' => ∀ J, GoodIt X.K μ' H' J r → R J H') := post
  by_cases hd : ∃ ds s1, ma env s = .ok (.tup ds) s1
  · right; left
    obtain ⟨ds, s1, e1⟩ := hd
    rw [bind_ok e1] at post'
    refine ⟨μ, env, s, hv, hs, ?_⟩
    rw [e1]
    intro μ1 H1 g1 hs1 v hx
    cases hx with
    | @tup q xs _ ht hl => exact ⟨q, rfl, ⟨xs, ht⟩, Post.now (a := (⟨ds, none⟩ : Src)) (Post.later g1 post') hs1 _ (good_tup ht hl)⟩
  · by_cases hx : ∃ x s1, ma env s = .ok (.str x) s1
    · right; right
      obtain ⟨x, s1, e1⟩ := hx
      rw [bind_ok e1] at post'
      refine ⟨μ, env, s, hv, hs, ?_⟩
      rw [e1]
      intro μ1 H1 g1 hs1 v hx
      cases hx with
      | str x => exact ⟨x, rfl, Post.now (a := (⟨signsOf x, none⟩ : Src)) (Post.later g1 post') hs1 _ good_str⟩
    left
    refine ⟨μ, env, s, hv, hs, ?_⟩
    cases e1 : ma env s with
    | stuck => rw [bind_run, e1] at post'; exact (show False from post').elim
    | exc c s1 => rw [bind_exc e1] at post'; exact post'
    | ok x s1 =>
      rw [bind_ok e1] at post'
      intro μ1 H1 g1 hs1 v hxx
      have p1 := Post.later g1 post'
      unfold srcD at p1
      cases hxx with
      | tup ht hl => exact (hd ⟨_, _, e1⟩).elim
      | @flst q xs ds ht hl => exact ⟨q, rfl, ⟨xs, ht.sqL⟩, Post.now (a := (⟨ds, none⟩ : Src)) p1 hs1 _ (good_flst ht hl)⟩
      | @vls q xs ds ht hl => exact ⟨q, rfl, ⟨xs, ht.sqL⟩, Post.now (a := (⟨ds, none⟩ : Src)) p1 hs1 _ (good_vls ht hl)⟩
      | @ptr q n hn =>
        cases ec : s1[n]? with
        | none => simp only [ec] at p1; exact (show False from p1).elim
        | some cl =>
          simp only [ec] at p1
          cases cl with
          | lst ds =>
            obtain ⟨xs, h1, hl⟩ := cell_lst hs1 hn ec
            exact ⟨q, rfl, ⟨xs, SqL.of h1⟩, Post.now (a := (⟨ds, some (n, ds)⟩ : Src)) p1 hs1 _ (good_lst hn)⟩
          | dK kvs => exact (show False from p1).elim
          | dT kvs => exact (show False from p1).elim
          | dN kvs => exact (show False from p1).elim
          | fN kvs => exact (show False from p1).elim
          | ins C fs => exact (show False from p1).elim
          | fK kvs => exact (show False from p1).elim
      | non => exact (show False from p1).elim
      | bl _ => exact (show False from p1).elim
      | int _ => exact (show False from p1).elim
      | str x => exact (hx ⟨x, _, e1⟩).elim
      | rng _ => exact (show False from p1).elim)
theorem si_range1 {mr : Env → M (List D)} (hg : Gl X "range") (hm : X.mg "range" = none) (ha : SA X E [a] mr) (hs : starEach [a] X.env = [(false, eval a X.env)] := by rfl) : SI X E tg (.Call (.Name "range" p) [a] [] pos) (srcA rng1D mr) := PI.imp (pi_range1 hg hm ha hs) (by
  rintro σ H R ⟨μ, env, s, hv, hs, post⟩
  refine ⟨μ, env, s, hv, hs, (Post.bind post).mono fun ds s1 μ1 H1 g1 hs1 p1 vs hl => ?_⟩
  unfold rng1D at p1
  split at p1
  · rename_i j
    obtain ⟨v, rfl, r⟩ := repL1 hl
    cases r
    split at p1
    · exact ⟨j, rfl, by omega, by omega, Post.now (a := (⟨rngItems 0 j.toNat, none⟩ : Src)) p1 hs1 _ good_rng⟩
    · exact (show False from p1).elim
  · exact (show False from p1).elim)
theorem si_range2 {mr : Env → M (List D)} (hg : Gl X "range") (hm : X.mg "range" = none) (ha : SA X E [a, b] mr) (hs : starEach [a, b] X.env = [(false, eval a X.env), (false, eval b X.env)] := by rfl) (hs2 : starEach [b] X.env = [(false, eval b X.env)] := by rfl) : SI X E tg (.Call (.Name "range" p) [a, b] [] pos) (srcA rng2D mr) := PI.imp (pi_range2 hg hm ha hs hs2) (by
  rintro σ H R ⟨μ, env, s, hv, hs, post⟩
  refine ⟨μ, env, s, hv, hs, (Post.bind post).mono fun ds s1 μ1 H1 g1 hs1 p1 vs hl => ?_⟩
  unfold rng2D at p1
  split at p1
  · rename_i i j
    obtain ⟨v, w, rfl, r, r'⟩ := repL2 hl
    cases r
    cases r'
    split at p1
    · exact ⟨i, j, rfl, by omega, Post.now (a := (⟨rngItems i (j - i).toNat, none⟩ : Src)) p1 hs1 _ good_rng⟩
    · exact (show False from p1).elim
  · exact (show False from p1).elim)
end

/-! ### comprehensions -/
def wipeE (env : Env) : List Nat → Env
  | [] => env
  | v :: vs => (wipeE env vs).set v none
theorem SimV.wipe {K : PySem.W.Frag} {μ : Mu} {H : Hp} {σ : L2.St} {env : Env} (h : SimV K μ H σ env) : ∀ vs : List Nat, SimV K μ H (wipe σ vs) (wipeE env vs)
  | [] => h
  | v :: vs => by
    have ih := SimV.wipe h vs
    unfold L2.wipe wipeE
    refine ⟨by rw [List.length_set, List.length_set, ih.len], fun j e hj => ?_⟩
    by_cases hij : v = j
    · subst hij
      by_cases hl : v < (wipeE env vs).length
      · rw [List.getElem?_set_self hl] at hj
        cases hj
      · rw [List.getElem?_eq_none (by rw [List.length_set]; omega)] at hj
        cases hj
    · rw [List.getElem?_set_ne hij] at hj
      obtain ⟨w, h1, h2⟩ := ih.val j e hj
      exact ⟨w, by rw [List.getElem?_set_ne hij]; exact h1, h2⟩
noncomputable instance decOk (r : Src) (s : S) : Decidable (r.Ok s) := Classical.propDecidable _
/-- the walked list stands as it stood -/
noncomputable def guardM (r : Src) : M Unit := fun s => if r.Ok s then .ok () s else .stuck
noncomputable def collM (r : Src) (g : D → Env → M Env) (t : Env → M Bool) (e : Env → M D) (env0 : Env) : List D → M (List D)
  | [] => guardM r >>= fun _ => pure []
  | d :: ds => guardM r >>= fun _ => g d env0 >>= fun env => t env >>= fun b => if b then e env >>= fun y => collM r g t e env0 ds >>= fun ys => pure (y :: ys) else collM r g t e env0 ds
def szM (n : Nat) : M Unit := if n ≤ 100000 then pure () else stuck
/-- [e for g in r if t], vs: its own slots -/
noncomputable def compM (mi : Env → M Src) (g : D → Env → M Env) (t : Env → M Bool) (e : Env → M D) (vs : List Nat) (env : Env) : M D :=
  mi env >>= fun r => szM r.items.length >>= fun _ => collM r g t e (wipeE env vs) r.items >>= fun ys => allocC (.lst ys)
noncomputable def compF (mi : Env → M Src) (g : D → Env → M Env) (t : Env → M Bool) (e : Env → M D) (vs : List Nat) (env : Env) : M D :=
  mi env >>= fun r => szM r.items.length >>= fun _ => collM r g t e (wipeE env vs) r.items >>= fun ys => fun s => .ok (.vls ys) s
def yesT (_ : Env) : M Bool := pure true
def STs (X : Cx) (E : XK) (ifs : List Expr) (t : Env → M Bool) : Prop := PTs X ifs (TTof X.K E t)
theorem PTs.imp {X : Cx} {es : List Expr} {t t' : TT} (h : PTs X es t) (f : ∀ σ H Q, t' σ H Q → t σ H Q) : PTs X es t' := ⟨fun pins s σ H Q I q => h.run pins s σ H Q I (f σ H Q q)⟩
/-- another heap in which all that is named stands -/
structure Hq (μ : Mu) (H H' : Hp) : Prop where
  tup : ∀ a xs, H a = some (.tup xs) → H' a = some (.tup xs)
  frz : ∀ a o u, (∀ xs, u ≠ .dK xs) → H a = some (.frz o u) → H' a = some (.frz o u)
  vls : ∀ a xs, H a = some (.lst xs) → a ∉ μ.c → a ∉ μ.h → H' a = some (.lst xs)
mutual
theorem Rep.heap {K : PySem.W.Frag} {μ : Mu} {H H' : Hp} (k : Hq μ H H') : ∀ (d : D) (v : V), Rep K μ H v d → Rep K μ H' v d
  | .non, _, h => by cases h; exact .non
  | .bl b, _, h => by cases h; exact .bl b
  | .int i, _, h => by cases h; exact .int i
  | .str x, _, h => by cases h; exact .str x
  | .tup ds, _, h => by
    cases h with
    | tup hs hl =>
      refine .tup ?_ (RepL.heap k ds _ hl)
      rcases hs with (h | ⟨o, h⟩) | h
      · exact .inl (.inl (k.tup _ _ h))
      · exact .inl (.inr ⟨o, k.frz _ _ _ (fun _ z => nomatch z) h⟩)
      · exact .inr h
  | .flst ds, _, h => by
    cases h with
    | flst hs hl =>
      refine .flst ?_ (RepL.heap k ds _ hl)
      rcases hs with ⟨o, h⟩ | h
      · exact .inl ⟨o, k.frz _ _ _ (fun _ z => nomatch z) h⟩
      · exact .inr h
  | .vls ds, _, h => by
    cases h with
    | vls hs hl => exact .vls ⟨k.vls _ _ hs.at_ hs.nc hs.nh, hs.nc, hs.nh⟩ (RepL.heap k ds _ hl)
  | .ptr n, _, h => by
    cases h with
    | ptr e => exact .ptr e
  | .rng lo hi c, _, h => by
    cases h with
    | rng h => obtain ⟨t, u, v, e⟩ := h; exact .rng ⟨t, u, v, k.frz _ _ _ (fun _ z => nomatch z) e⟩
theorem RepL.heap {K : PySem.W.Frag} {μ : Mu} {H H' : Hp} (k : Hq μ H H') : ∀ (ds : List D) (vs : List V), RepL K μ H vs ds → RepL K μ H' vs ds
  | [], _, h => by cases h; exact .nil
  | d :: ds, _, h => by
    cases h with
    | cons h1 h2 => exact .cons (Rep.heap k d _ h1) (RepL.heap k ds _ h2)
end
theorem CellOk.heap {K : PySem.W.Frag} {μ : Mu} {H H' : Hp} {a : Addr} {c : Cell} (k : Hq μ H H') (e : H' a = H a) (h : CellOk K μ H a c) : CellOk K μ H' a c := by
  cases c with
  | lst ds => obtain ⟨xs, q, r⟩ := h; exact ⟨xs, e.trans q, RepL.heap k _ _ r⟩
  | dK kvs => obtain ⟨xs, q, r⟩ := h; exact ⟨xs, e.trans q, r.1, RepL.heap k _ _ r.2⟩
  | dT kvs => obtain ⟨xs, q, r⟩ := h; exact ⟨xs, e.trans q, r.1, RepL.heap k _ _ r.2⟩
  | ins C fs => obtain ⟨c, dx, xs, hc, q, r⟩ := h; exact ⟨c, dx, xs, hc, e.trans q, r.1, RepL.heap k _ _ r.2⟩
  | fK kvs => obtain ⟨o, xs, q, r⟩ := h; exact ⟨o, xs, e.trans q, r.1, RepL.heap k _ _ r.2⟩
  | dN kvs => obtain ⟨ents, q, r⟩ := h; exact ⟨ents, e.trans q, r.ks, RepL.heap k _ _ r.vs, fun e he => Rep.heap k _ _ (r.at_ e he), r.ok⟩
  | fN kvs => obtain ⟨o, ents, q, r⟩ := h; exact ⟨o, ents, e.trans q, r.ks, RepL.heap k _ _ r.vs, fun e he => Rep.heap k _ _ (r.at_ e he), r.ok⟩
theorem hq_hid {μ : Mu} {H : Hp} {p : Addr} {xs ys : List V} (hp : p ∈ μ.h) (e : H p = some (.lst xs)) : Hq μ H (upd H p (.lst ys)) :=
  ⟨fun b zs q => by
    rw [upd_ne fun z => by rw [z, e] at q; cases q]
    exact q, fun b o u _ q => by
    rw [upd_ne fun z => by rw [z, e] at q; cases q]
    exact q, fun b zs q n1 n2 => by
    rw [upd_ne fun z => n2 (by rw [z]; exact hp)]
    exact q⟩
/-- a hidden list is written -/
theorem SimS.aside {K : PySem.W.Frag} {μ : Mu} {H : Hp} {s : S} {p : Addr} {xs ys : List V} (h : SimS K μ H s) (hp : p ∈ μ.h) (e : H p = some (.lst xs)) : SimS K μ (upd H p (.lst ys)) s :=
  ⟨h.len, h.nd, fun q hq z => h.hok q hq (upd_trk q z), h.dis, fun n c e0 => by
    obtain ⟨a, h1, h2⟩ := h.cell n c e0
    exact ⟨a, h1, h2.heap (hq_hid hp e) (upd_ne fun z => h.dis p hp (by rw [← z]; exact List.mem_of_getElem? h1))⟩⟩
section
variable {X : Cx} {E : XK}
theorem sts_nil : STs X E [] yesT := PTs.imp pts_nil (by
  rintro σ H Q ⟨μ, env, s, hv, hs, post⟩
  exact Post.now (a := true) post hs)
theorem sts_one {c : Expr} {t : Env → M Bool} (h : ST X E c t) : STs X E [c] t := pts_one h
theorem m_assoc {α β γ : Type} (m : M α) (f : α → M β) (g : β → M γ) : ((m >>= f) >>= g) = (m >>= fun a => f a >>= g) := by
  funext s
  rw [bind_run, bind_run, bind_run]
  cases m s with
  | stuck => rfl
  | exc c s' => rfl
  | ok a s' => exact (bind_run (f a) g s')
theorem m_congr {α β : Type} {m : M α} {f g : α → M β} (h : ∀ a, f a = g a) : (m >>= f) = (m >>= g) := by
  rw [show f = g from funext h]
theorem guard_ok {K : PySem.W.Frag} {α : Type} {r : Src} {f : Unit → M α} {s : S} {μ : Mu} {H : Hp} {q : α → S → Mu → Hp → Prop} (h : Post K E μ H ((guardM r >>= f) s) q) : r.Ok s ∧ Post K E μ H (f () s) q := by
  rw [bind_run] at h
  unfold guardM at h
  by_cases ok : r.Ok s
  · rw [if_pos ok] at h
    exact ⟨ok, h⟩
  · rw [if_neg ok] at h
    exact h.elim
theorem m_pure {α β : Type} (a : α) (f : α → M β) : ((Pure.pure a : M α) >>= f) = f a := rfl
theorem Post.bindB {α β : Type} {K : PySem.W.Frag} {μ μ1 : Mu} {H H1 : Hp} {m : M α} {f : α → M β} {s : S} {q : β → S → Mu → Hp → Prop} (h : Post K E μ H ((m >>= f) s) q) (g : Grow μ H μ1 H1) : Post K E μ1 H1 (m s) (fun a s1 _ _ => Post K E μ H (f a s1) q) := by
  rw [bind_run] at h
  cases e : m s with
  | stuck => rw [e] at h; exact h
  | ok a s' =>
    rw [e] at h
    exact fun _ _ _ _ => h
  | exc c s' => rw [e] at h; exact Post.later (α := α) (r := .exc c s') (q := fun _ _ _ _ => True) g h
/-- the loop of a comprehension; fin: what becomes of the list -/
theorem lc_ok {K : PySem.W.Frag} {r : Src} {J : It} {g : D → Env → M Env} {gt : TG} {t : Env → M Bool} {e : Env → M D} {fin : List D → M D} {σ : L2.St} {env : Env} {vs : List Nat} {μ : Mu} {H1 : Hp} {s1 : S} {Q : VK} {Dl : Addr}
    (hv : SimV K μ H1 σ env) (hs : SimS K μ H1 s1) (hJ : GoodIt K μ H1 J r) (hlen : r.items.length ≤ 100000) (hDn : H1 Dl = none)
    (hg : ∀ v H Qg, TGof K E g v (wipe σ vs) H Qg → gt v (wipe σ vs) H fun σ2 H2 => wipe σ2 vs = wipe σ vs ∧ Qg σ2 H2)
    (hfin : ∀ (c u : List Addr) (H : Hp) (s : S) (acc : List D) (xs : List V), Grow μ H1 ⟨c, u ++ μ.h⟩ H → Dl ∉ u ++ μ.h → SimS K ⟨c, u ++ Dl :: μ.h⟩ H s → H Dl = some (.lst xs) → RepL K ⟨c, u ++ Dl :: μ.h⟩ H xs acc → Post K E μ H1 (fin acc s) (okD K Q) → Q (.ref Dl) H)
    (post : Post K E μ H1 ((collM r g t e (wipeE env vs) r.items >>= fin) s1) (okD K Q)) :
    ∃ W : Nat → Nat → Hp → Prop, (∃ m, W 0 m (upd H1 Dl (.lst []))) ∧ ∀ i m H, W i m H →
      (J.stop i H ∧ Q (.ref Dl) H) ∨ (J.go i H ∧ ∃ Nx : Hp → Prop, (∀ H', Nx H' → ∃ m', m' < m ∧ W (i + 1) m' H') ∧ ∀ x H', J.yld i H x H' → gt x (wipe σ vs) H' fun σ2 H2 => wipe σ2 vs = wipe σ vs ∧ TTof K E t σ2 H2 fun b H3 =>
        if b = true then TEof K E e σ2 H3 fun y H4 => ∃ acc, H4 Dl = some (.lst acc) ∧ acc.length < sizeLine ∧ Nx (upd H4 Dl (.lst (acc ++ [y]))) else Nx H3) := by
  have nD := hs.new hDn
  -- what is known while the list is made
  let Up : Mu → Hp → Prop := fun μ' H => Grow μ H1 μ' H ∧ ∃ u, μ'.h = u ++ Dl :: μ.h ∧ Dl ∉ u ∧ ∀ p ∈ u, H1 p = none
  have inh : ∀ {μ' : Mu} {H : Hp}, Up μ' H → Dl ∈ μ'.h := fun ⟨_, u, hu, _⟩ => by
    rw [hu]
    exact List.mem_append_right _ List.mem_cons_self
  have up : ∀ {μ1 μ2 : Mu} {Ha Hb : Hp} {xs : List V} {sb : S}, Up μ1 Ha → Grow μ1 Ha μ2 Hb → SimS K μ2 Hb sb → Ha Dl = some (.lst xs) → Up μ2 Hb ∧ Hb Dl = some (.lst xs) := fun {μ1 μ2 Ha Hb xs sb} U g2 hb h => by
    have h1 := inh U
    obtain ⟨g1, u, hu, nu, ku⟩ := U
    obtain ⟨v, hv2, kv⟩ := g2.hid
    refine ⟨⟨g1.trans g2, v ++ u, by rw [hv2, hu, List.append_assoc], fun z => ?_, fun p hp => ?_⟩, g2.frm Dl _ h (hb.dis Dl (by rw [hv2]; exact List.mem_append_right _ h1))⟩
    · rcases List.mem_append.mp z with z | z
      · have := kv Dl z
        rw [h] at this
        cases this
      · exact nu z
    · rcases List.mem_append.mp hp with hp | hp
      · exact g1.trk p (kv p hp)
      · exact ku p hp
  have bump : ∀ {μ' : Mu} {H : Hp} {xs ys : List V}, Up μ' H → H Dl = some (.lst xs) → Up μ' (upd H Dl (.lst ys)) := fun {μ' H xs ys} U h => by
    obtain ⟨g1, r⟩ := U
    refine ⟨?_, r⟩
    have ne : ∀ {a : Addr} {o : HO}, H1 a = some o → a ≠ Dl := fun {a o} h1 z => by
      rw [z, hDn] at h1
      cases h1
    exact ⟨g1.pre, g1.hid, fun a o h1 => by rw [upd_ne (ne h1)]; exact g1.tup a o h1, fun a o u h1 => by rw [upd_ne (ne h1)]; exact g1.frz a o u h1, fun a o h1 n => by rw [upd_ne (ne h1)]; exact g1.frm a o h1 n, g1.new, fun a h1 => g1.trk a (upd_trk a h1)⟩
  -- what holds at a turn
  let Tn : Nat → Hp → Prop := fun i H => ∃ μ' s' acc xs, Up μ' H ∧ SimS K μ' H s' ∧ H Dl = some (.lst xs) ∧ RepL K μ' H xs acc ∧ acc.length ≤ i ∧ i ≤ r.items.length ∧
    Post K E μ H1 ((collM r g t e (wipeE env vs) (r.items.drop i) >>= fun ys => fin (acc ++ ys)) s') (okD K Q)
  have post0 : Post K E μ H1 ((collM r g t e (wipeE env vs) (r.items.drop 0) >>= fun ys => fin ([] ++ ys)) s1) (okD K Q) := post
  refine ⟨fun i m H => m = r.items.length - i ∧ Tn i H, ⟨r.items.length - 0, rfl, μ.hide Dl, s1, [], [], ⟨grow_hide hDn, [], rfl, List.not_mem_nil, fun _ h => nomatch h⟩, hs.hide hDn, upd_same, .nil, Nat.le_refl _, Nat.zero_le _, post0⟩, ?_⟩
  rintro i m H ⟨rfl, μ', s', acc, xs, U1, hs', hD, hacc, hli, hile, p⟩
  by_cases hi : i < r.items.length
  · right
    obtain ⟨d, hd⟩ : ∃ d, r.items[i]? = some d := ⟨_, List.getElem?_eq_getElem hi⟩
    have ed : r.items.drop i = d :: r.items.drop (i + 1) := by
      rw [List.drop_eq_getElem_cons hi]
      rw [List.getElem?_eq_getElem hi] at hd
      cases hd
      rfl
    rw [ed] at p
    have e1 : (collM r g t e (wipeE env vs) (d :: r.items.drop (i + 1)) >>= fun ys => fin (acc ++ ys)) = (guardM r >>= fun _ => g d (wipeE env vs) >>= fun env2 => t env2 >>= fun b => if b then e env2 >>= fun y => collM r g t e (wipeE env vs) (r.items.drop (i + 1)) >>= fun ys => fin (acc ++ (y :: ys)) else (collM r g t e (wipeE env vs) (r.items.drop (i + 1)) >>= fun ys => fin (acc ++ ys))) := by
      show ((guardM r >>= fun _ => g d (wipeE env vs) >>= fun env2 => t env2 >>= fun b => if b then e env2 >>= fun y => collM r g t e (wipeE env vs) (r.items.drop (i + 1)) >>= fun ys => (Pure.pure (y :: ys) : M (List D)) else collM r g t e (wipeE env vs) (r.items.drop (i + 1))) >>= fun ys => fin (acc ++ ys)) = _
      rw [m_assoc]
      refine m_congr fun _ => ?_
      rw [m_assoc]
      refine m_congr fun env2 => ?_
      rw [m_assoc]
      refine m_congr fun b => ?_
      cases b with
      | true =>
        show ((e env2 >>= fun y => collM r g t e (wipeE env vs) (r.items.drop (i + 1)) >>= fun ys => (Pure.pure (y :: ys) : M (List D))) >>= _) = (e env2 >>= fun y => collM r g t e (wipeE env vs) (r.items.drop (i + 1)) >>= fun ys => fin (acc ++ (y :: ys)))
        rw [m_assoc]
        refine m_congr fun y => ?_
        rw [m_assoc]
        exact m_congr fun ys => rfl
      | false => rfl
    rw [e1] at p
    obtain ⟨ok, p2⟩ := guard_ok p
    clear p e1
    obtain ⟨go, yl⟩ := (hJ μ' H s' U1.1.w hs' ok).1 i d hd
    refine ⟨go, fun H' => Tn (i + 1) H', fun H' q => ⟨r.items.length - (i + 1), by omega, rfl, q⟩, fun x H' y => ?_⟩
    obtain ⟨g2, hs2, rx⟩ := yl x H' y
    obtain ⟨U2, hD2⟩ := up U1 g2 hs2 hD
    refine hg x H' _ ⟨μ', wipeE env vs, s', d, (hv.grow U2.1).wipe vs, hs2, rx, (Post.bindB p2 U2.1).mono fun env2 s2 μ3 H3 g3 hs3 p3 σ2 hv2 => ?_⟩
    obtain ⟨U3, hD3⟩ := up U2 g3 hs3 hD2
    refine ⟨μ3, env2, s2, hv2, hs3, (Post.bindB p3 U3.1).mono fun b s4 μ4 H4 g4 hs4 p4 => ?_⟩
    obtain ⟨U4, hD4⟩ := up U3 g4 hs4 hD3
    show if b = true then _ else _
    cases b with
    | false => exact ⟨μ4, s4, acc, xs, U4, hs4, hD4, RepL.grow (g2.trans (g3.trans g4)) _ _ hacc, by omega, hi, p4⟩
    | true =>
      refine ⟨μ4, env2, s4, hv2.grow g4, hs4, (Post.bindB p4 U4.1).mono fun y s5 μ5 H5 g5 hs5 p5 v hy => ?_⟩
      obtain ⟨U5, hD5⟩ := up U4 g5 hs5 hD4
      have hacc5 := RepL.grow (g2.trans (g3.trans (g4.trans g5))) _ _ hacc
      refine ⟨xs, hD5, Nat.lt_of_le_of_lt (Nat.le_trans (by rw [hacc5.length]; omega) hlen) (by decide), μ5, s5, acc ++ [y], xs ++ [v], bump U5 hD5, hs5.aside (inh U5) hD5, upd_same, ?_, by rw [List.length_append, List.length_singleton]; omega, hi, ?_⟩
      · exact RepL.heap (hq_hid (inh U5) hD5) _ _ (hacc5.append (.cons hy .nil))
      · refine cast ?_ p5
        congr 1
        refine congrArg (fun z : M D => z s5) (m_congr fun ys => ?_)
        rw [List.append_assoc]
        rfl
  · left
    have ei : i = r.items.length := by omega
    subst ei
    rw [List.drop_length] at p
    have e1 : (collM r g t e (wipeE env vs) [] >>= fun ys => fin (acc ++ ys)) = (guardM r >>= fun _ => fin acc) := by
      show ((guardM r >>= fun _ => (Pure.pure [] : M (List D))) >>= fun ys => fin (acc ++ ys)) = _
      rw [m_assoc]
      refine m_congr fun _ => ?_
      show fin (acc ++ []) = _
      rw [List.append_nil]
    rw [e1] at p
    obtain ⟨ok, p2⟩ := guard_ok p
    refine ⟨(hJ μ' H s' U1.1.w hs' ok).2, ?_⟩
    obtain ⟨g1, u, hu, nu, ku⟩ := U1
    obtain ⟨c, h⟩ := μ'
    simp only [] at hu
    subst hu
    refine hfin c u H s' acc xs ⟨g1.pre, ⟨u, rfl, ku⟩, g1.tup, g1.frz, g1.frm, g1.new, g1.trk⟩ (fun z => ?_) hs' hD hacc p2
    rcases List.mem_append.mp z with z | z
    · exact nu z
    · exact nD.2 z
/-- .. it is a cell -/
theorem fin_ptr {K : PySem.W.Frag} {μ : Mu} {H1 : Hp} {Q : VK} {Dl : Addr} (hDn : H1 Dl = none) : ∀ (c u : List Addr) (H : Hp) (s : S) (acc : List D) (xs : List V), Grow μ H1 ⟨c, u ++ μ.h⟩ H → Dl ∉ u ++ μ.h → SimS K ⟨c, u ++ Dl :: μ.h⟩ H s → H Dl = some (.lst xs) → RepL K ⟨c, u ++ Dl :: μ.h⟩ H xs acc → Post K E μ H1 (allocC (.lst acc) s) (okD K Q) → Q (.ref Dl) H := fun c u H s acc xs g nd hs hD hacc p => by
  have hs2 : SimS K ⟨c ++ [Dl], u ++ μ.h⟩ H (s ++ [.lst acc]) := hs.join nd ⟨xs, hD, RepL.sh sh_join _ _ hacc⟩
  have g2 : Grow μ H1 ⟨c ++ [Dl], u ++ μ.h⟩ H := by
    obtain ⟨⟨t, ht⟩, a1, a2, a3, a4, a5, a6⟩ := g
    refine ⟨⟨t ++ [Dl], by show c ++ [Dl] = _; rw [show c = μ.c ++ t from ht, List.append_assoc]⟩, a1, a2, a3, fun a o h n => a4 a o h fun z => n (List.mem_append_left _ z), fun a h => ?_, a6⟩
    rcases List.mem_append.mp h with h | h
    · exact a5 a h
    · rw [List.mem_singleton] at h
      rw [h]
      exact .inr hDn
  refine p _ H g2 hs2 (.ref Dl) (.ptr ?_)
  have e1 : c.length = s.length := hs.len
  show (c ++ [Dl])[s.length]? = _
  rw [← e1, List.getElem?_append_right (Nat.le_refl _)]
  simp
/-- .. nobody writes it any more -/
theorem fin_vls {K : PySem.W.Frag} {μ : Mu} {H1 : Hp} {Q : VK} {Dl : Addr} : ∀ (c u : List Addr) (H : Hp) (s : S) (acc : List D) (xs : List V), Grow μ H1 ⟨c, u ++ μ.h⟩ H → Dl ∉ u ++ μ.h → SimS K ⟨c, u ++ Dl :: μ.h⟩ H s → H Dl = some (.lst xs) → RepL K ⟨c, u ++ Dl :: μ.h⟩ H xs acc → Post K E μ H1 (.ok (.vls acc) s) (okD K Q) → Q (.ref Dl) H := fun c u H s acc xs g nd hs hD hacc p =>
  p _ H g hs.open (.ref Dl) (.vls ⟨hD, hs.dis Dl (by simp), nd⟩ (RepL.sh sh_open _ _ hacc))
end
end PL

/-! PL5: comprehensions' rules, statements, loops, a def's promise. -/
namespace PL
open PySem PySem.Spec PyProof.Rows L2

theorem wipe_get (σ : L2.St) (j : Nat) : ∀ vs : List Nat, (wipe σ vs)[j]? = if j ∈ vs then (σ[j]?).map (fun _ => none) else σ[j]?
  | [] => by
    rw [if_neg List.not_mem_nil]
    rfl
  | v :: vs => by
    have ih := wipe_get σ j vs
    show ((wipe σ vs).set v none)[j]? = _
    by_cases hv : v = j
    · subst hv
      rw [if_pos List.mem_cons_self]
      by_cases hl : v < (wipe σ vs).length
      · rw [List.getElem?_set_self hl]
        rw [wipe_length] at hl
        rw [List.getElem?_eq_getElem hl]
        rfl
      · rw [List.getElem?_eq_none (by rw [List.length_set]; omega)]
        rw [wipe_length] at hl
        rw [List.getElem?_eq_none (by omega)]
        rfl
    · rw [List.getElem?_set_ne hv, ih]
      have e : (j ∈ v :: vs) = (j ∈ vs) := by
        rw [List.mem_cons]
        exact propext ⟨fun h => h.elim (fun z => absurd z.symm hv) id, .inr⟩
      simp only [e]
theorem wipe_same {σ σ2 : L2.St} {vs : List Nat} (hl : σ2.length = σ.length) (h : ∀ j, j ∉ vs → σ2[j]? = σ[j]?) : wipe σ2 vs = wipe σ vs := by
  refine List.ext_getElem? fun j => ?_
  rw [wipe_get, wipe_get]
  by_cases hj : j ∈ vs
  · rw [if_pos hj, if_pos hj]
    by_cases h1 : j < σ.length
    · rw [List.getElem?_eq_getElem h1, List.getElem?_eq_getElem (by omega)]
      rfl
    · rw [List.getElem?_eq_none (by omega), List.getElem?_eq_none (by omega)]
  · rw [if_neg hj, if_neg hj, h j hj]
section
variable {X : Cx} {E : XK} {elt tg iter : Expr} {ifs : List Expr} {scope : Scope} {pos : Pos} {mi : Env → M Src} {t : Env → M Bool} {e : Env → M D}
/-- the slots that a target stores to -/
def GtOk (K : PySem.W.Frag) (E : XK) (g : D → Env → M Env) (gt : TG) (vs : List Nat) : Prop := ∀ v σ H Qg, TGof K E g v (wipe σ vs) H Qg → gt v (wipe σ vs) H fun σ2 H2 => wipe σ2 vs = wipe σ vs ∧ Qg σ2 H2
theorem te_comp {K : PySem.W.Frag} {g : D → Env → M Env} {gt : TG} {vs : List Nat} (hg : GtOk K E g gt vs) : ∀ σ H Q, TEof K E (compM mi g t e vs) σ H Q → tLc (TIof K E mi) gt (TTof K E t) (TEof K E e) vs σ H Q := by
  rintro σ H Q ⟨μ, env, s, hv, hs, post⟩
  refine ⟨μ, env, s, hv, hs, (Post.bind post).mono fun r s1 μ1 H1 g1 hs1 p1 J hJ Dl hD => ?_⟩
  by_cases hl : r.items.length ≤ 100000
  · have e1 : szM r.items.length = (Pure.pure () : M Unit) := if_pos hl
    rw [e1] at p1
    exact lc_ok (hv.grow g1) hs1 hJ hl hD (fun v H Qg => hg v σ H Qg) (fin_ptr hD) p1
  · have e1 : szM r.items.length = (stuck : M Unit) := if_neg hl
    rw [e1] at p1
    exact (show False from p1).elim
theorem te_compF {K : PySem.W.Frag} {g : D → Env → M Env} {gt : TG} {vs : List Nat} (hg : GtOk K E g gt vs) : ∀ σ H Q, TEof K E (compF mi g t e vs) σ H Q → tLc (TIof K E mi) gt (TTof K E t) (TEof K E e) vs σ H Q := by
  rintro σ H Q ⟨μ, env, s, hv, hs, post⟩
  refine ⟨μ, env, s, hv, hs, (Post.bind post).mono fun r s1 μ1 H1 g1 hs1 p1 J hJ Dl hD => ?_⟩
  by_cases hl : r.items.length ≤ 100000
  · have e1 : szM r.items.length = (Pure.pure () : M Unit) := if_pos hl
    rw [e1] at p1
    exact lc_ok (hv.grow g1) hs1 hJ hl hD (fun v H Qg => hg v σ H Qg) fin_vls p1
  · have e1 : szM r.items.length = (stuck : M Unit) := if_neg hl
    rw [e1] at p1
    exact (show False from p1).elim
theorem gt_name {K : PySem.W.Frag} {i : Nat} {vs : List Nat} (hi : i ∈ vs) : GtOk K E (gNm i) (gName i) vs := by
  rintro v σ H Qg ⟨μ, env, s, d, hv, hs, r, post⟩
  refine ⟨?_, Post.now (a := env.set i (some d)) post hs _ (hv.set r i)⟩
  have e1 : wipe ((wipe σ vs).set i (some v)) vs = wipe (wipe σ vs) vs := wipe_same (by rw [List.length_set]) fun j hj => by
    rw [List.getElem?_set_ne (show i ≠ j from fun z => hj (z ▸ hi))]
  rw [e1]
  refine List.ext_getElem? fun j => ?_
  rw [wipe_get, wipe_get]
  by_cases hj : j ∈ vs
  · rw [if_pos hj, if_pos hj, Option.map_map]
    rfl
  · rw [if_neg hj, if_neg hj]
theorem wipe_wipe (σ : L2.St) (vs : List Nat) : wipe (wipe σ vs) vs = wipe σ vs := by
  refine List.ext_getElem? fun j => ?_
  rw [wipe_get, wipe_get]
  by_cases hj : j ∈ vs
  · rw [if_pos hj, if_pos hj, Option.map_map]
    rfl
  · rw [if_neg hj, if_neg hj]
theorem gt_two {K : PySem.W.Frag} {i j : Nat} {vs : List Nat} (hi : i ∈ vs) (hj : j ∈ vs) : GtOk K E (gTupM 2 (gConsM (gNm i) (gConsM (gNm j) gNilM))) (gTup K 2 (gCons (gName i) (gCons (gName j) gNil))) vs := by
  rintro v σ H Qg ⟨μ, env, s, d, hv, hs, r, post⟩
  cases r with
  | @tup a xs ds ht hl =>
    cases hl with
    | nil => exact (show False from post).elim
    | @cons x xs d ds r1 l1 =>
      cases l1 with
      | nil => exact (show False from post).elim
      | @cons y ys e es r2 l2 =>
        cases l2 with
        | nil =>
          refine ⟨a, [x, y], rfl, ht, rfl, x, [y], rfl, y, [], rfl, rfl, ?_, Post.now (a := (env.set i (some d)).set j (some e)) post hs _ ((hv.set r1 i).set r2 j)⟩
          refine (wipe_same (σ := wipe σ vs) (by rw [List.length_set, List.length_set]) fun k hk => ?_).trans (wipe_wipe σ vs)
          rw [List.getElem?_set_ne (show j ≠ k from fun z => hk (z ▸ hj)), List.getElem?_set_ne (show i ≠ k from fun z => hk (z ▸ hi))]
        | cons r3 l3 => exact (show False from post).elim
  | _ => exact (show False from post).elim
theorem se_comp {g : D → Env → M Env} {gt : TG} {own : List (Str × Nat)} (hc : X.calm = true) (hN : X.N.Nodup) (hi : SI X E tg iter mi) (ok : BlkOk X.N X.env.scope scope own) (hgt : GtOk X.K E g gt (own.map (·.2)))
    (hg : ∀ (s : Shared) (H : Hp) (C : Addr) (cl : List (Str × Addr)) (fp : List Addr), PG (X.blk s H scope (compEnvC scope cl C X.env) fp) tg gt) (ht : ∀ (s : Shared) (H : Hp) (C : Addr) (cl : List (Str × Addr)) (fp : List Addr), STs (X.blk s H scope (compEnvC scope cl C X.env) fp) E ifs t)
    (he : ∀ (s : Shared) (H : Hp) (C : Addr) (cl : List (Str × Addr)) (fp : List Addr), SE (X.blk s H scope (compEnvC scope cl C X.env) fp) E elt e) (hs : ∀ x, foldedSetIterable iter X.env x = pure x := by intro _; rfl) :
    SE X E (.ListComp elt [⟨tg, iter, ifs, 0⟩] scope pos) (compM mi g t e (own.map (·.2))) := PE.imp (pe_lc (tt := TTof X.K E t) (te := TEof X.K E e) hc hN hi ok hg ht he hs) (te_comp hgt)
theorem se_compF {g : D → Env → M Env} {gt : TG} {own : List (Str × Nat)} (hc : X.calm = true) (hN : X.N.Nodup) (hi : SI X E tg iter mi) (ok : BlkOk X.N X.env.scope scope own) (hgt : GtOk X.K E g gt (own.map (·.2)))
    (hg : ∀ (s : Shared) (H : Hp) (C : Addr) (cl : List (Str × Addr)) (fp : List Addr), PG (X.blk s H scope (compEnvC scope cl C X.env) fp) tg gt) (ht : ∀ (s : Shared) (H : Hp) (C : Addr) (cl : List (Str × Addr)) (fp : List Addr), STs (X.blk s H scope (compEnvC scope cl C X.env) fp) E ifs t)
    (he : ∀ (s : Shared) (H : Hp) (C : Addr) (cl : List (Str × Addr)) (fp : List Addr), SE (X.blk s H scope (compEnvC scope cl C X.env) fp) E elt e) (hs : ∀ x, foldedSetIterable iter X.env x = pure x := by intro _; rfl) :
    SE X E (.ListComp elt [⟨tg, iter, ifs, 0⟩] scope pos) (compF mi g t e (own.map (·.2))) := PE.imp (pe_lc (tt := TTof X.K E t) (te := TEof X.K E e) hc hN hi ok hg ht he hs) (te_compF hgt)
end

/-! ### statements -/
def nxS (env : Env) : M Out := pure (.nx env)
def seqS (m n : Env → M Out) (env : Env) : M Out := m env >>= fun o => match o with
  | .nx env' => n env'
  | o => pure o
def asgS (me : Env → M D) (g : D → Env → M Env) (env : Env) : M Out := me env >>= fun d => g d env >>= fun env' => pure (.nx env')
def setS (i : Nat) (me : Env → M D) (env : Env) : M Out := me env >>= fun d => pure (.nx (env.set i (some d)))
def dropS (me : Env → M D) (env : Env) : M Out := me env >>= fun _ => pure (.nx env)
def retS (me : Env → M D) (env : Env) : M Out := me env >>= fun d => pure (.rt d)
def retNS (_ : Env) : M Out := pure (.rt .non)
def brkS (env : Env) : M Out := pure (.bk env)
def contS (env : Env) : M Out := pure (.ct env)
def ifS (c : Env → M Bool) (m n : Env → M Out) (env : Env) : M Out := c env >>= fun b => if b then m env else n env
def parS (i j : Nat) (ma mb : Env → M D) (env : Env) : M Out := ma env >>= fun a => mb env >>= fun b => pure (.nx ((env.set i (some a)).set j (some b)))
def augS (i : Nat) (f : D → D → M D) (me : Env → M D) (env : Env) : M Out := varM i env >>= fun x => me env >>= fun y => f x y >>= fun z => pure (.nx (env.set i (some z)))
noncomputable def loopM (r : Src) (g : D → Env → M Env) (b : Env → M Out) : List D → Env → M Out
  | [], env => guardM r >>= fun _ => pure (.nx env)
  | d :: ds, env => guardM r >>= fun _ => g d env >>= fun env1 => b env1 >>= fun o => match o with
    | .nx env2 => loopM r g b ds env2
    | .ct env2 => loopM r g b ds env2
    | .bk env2 => pure (.nx env2)
    | .rt d => pure (.rt d)
noncomputable def forS (mi : Env → M Src) (g : D → Env → M Env) (b : Env → M Out) (env : Env) : M Out := mi env >>= fun r => loopM r g b r.items env
def whileN (c : Env → M Bool) (b : Env → M Out) : Nat → Env → M Out
  | 0, _ => stuck
  | k + 1, env => c env >>= fun t => if t then (b env >>= fun o => match o with
    | .nx env2 => whileN c b k env2
    | .ct env2 => whileN c b k env2
    | .bk env2 => pure (.nx env2)
    | .rt d => pure (.rt d)) else pure (.nx env)
open Classical in
noncomputable def whileS (c : Env → M Bool) (b : Env → M Out) (env : Env) : M Out := fun s => if h : ∃ k, whileN c b k env s ≠ .stuck then whileN c b (Classical.choose h) env s else .stuck
section
variable {X : Cx} {E : XK} {e a b tg : Expr} {ma mb me : Env → M D} {pos p : Pos} {m n : Env → M Out} {st : Stmt} {sts : List Stmt} {c : Expr} {mc : Env → M Bool}
theorem okO_next {K : PySem.W.Frag} {μ : Mu} {H : Hp} {s : S} {env : Env} {σ : L2.St} {Dd : Ends} (hs : SimS K μ H s) (hv : SimV K μ H σ env) (post : Post K E μ H (.ok (.nx env) s) (okO K Dd)) : Dd.nx σ H := Post.now post hs σ hv
theorem sss_nil : SSs X E [] nxS := PSs.imp pss_nil (by
  rintro Dd σ H ⟨μ, env, s, hv, hs, post⟩
  exact okO_next hs hv post)
theorem ts_seq {K : PySem.W.Frag} : ∀ Dd σ H, TSof K E (seqS m n) Dd σ H → tSeq (TSof K E m) (TSof K E n) Dd σ H := by
  rintro Dd σ H ⟨μ, env, s, hv, hs, post⟩
  refine ⟨μ, env, s, hv, hs, (Post.bind post).mono fun o s1 μ1 H1 g1 hs1 p1 => ?_⟩
  cases o with
  | nx env1 => exact fun σ1 hv1 => ⟨μ1, env1, s1, hv1, hs1, p1⟩
  | rt d => exact Post.now (E := E) (a := Out.rt d) p1 hs1
  | bk env1 => exact Post.now (E := E) (a := Out.bk env1) p1 hs1
  | ct env1 => exact Post.now (E := E) (a := Out.ct env1) p1 hs1
theorem sss_cons (h1 : SS X E st m) (h2 : SSs X E sts n) : SSs X E (st :: sts) (seqS m n) := PSs.imp (pss_cons h1 h2) ts_seq
theorem sss_one (h1 : SS X E st m) : SSs X E [st] m := pss_one h1
theorem ss_pass : SS X E (.Pass pos) nxS := PS.imp ps_pass (by
  rintro Dd σ H ⟨μ, env, s, hv, hs, post⟩
  exact okO_next hs hv post)
theorem ss_break : SS X E (.Break pos) brkS := PS.imp ps_break (by
  rintro Dd σ H ⟨μ, env, s, hv, hs, post⟩
  exact Post.now (E := E) (a := Out.bk env) post hs σ hv)
theorem ss_continue : SS X E (.Continue pos) contS := PS.imp ps_continue (by
  rintro Dd σ H ⟨μ, env, s, hv, hs, post⟩
  exact Post.now (E := E) (a := Out.ct env) post hs σ hv)
theorem ss_expr (he : SE X E e me) (hs : swapsWith e none pos.line X.env = pure false := by rfl) : SS X E (.Expr e pos) (dropS me) := PS.imp (ps_expr he hs) (by
  rintro Dd σ H ⟨μ, env, s, hv, hs, post⟩
  exact ⟨μ, env, s, hv, hs, (Post.bind post).mono fun d s1 μ1 H1 g1 hs1 p1 v hr => okO_next hs1 (hv.grow g1) p1⟩)
theorem ss_ret (he : SE X E e me) : SS X E (.Return (some e) pos) (retS me) := PS.imp (ps_ret he) (by
  rintro Dd σ H ⟨μ, env, s, hv, hs, post⟩
  exact ⟨μ, env, s, hv, hs, (Post.bind post).mono fun d s1 μ1 H1 g1 hs1 p1 v hr => Post.now (E := E) (a := Out.rt d) p1 hs1 v hr⟩)
theorem ss_retN : SS X E (.Return none pos) retNS := PS.imp ps_retN (by
  rintro Dd σ H ⟨μ, env, s, hv, hs, post⟩
  exact Post.now (E := E) (a := Out.rt .non) post hs .non .non)
theorem ss_if {A B : List Stmt} (hc : ST X E c mc) (ha : SSs X E A m) (hb : SSs X E B n) : SS X E (.If c A B pos) (ifS mc m n) := PS.imp (ps_if hc ha hb) (by
  rintro Dd σ H ⟨μ, env, s, hv, hs, post⟩
  refine ⟨μ, env, s, hv, hs, (Post.bind post).mono fun k s1 μ1 H1 g1 hs1 p1 => ?_⟩
  show if k = true then _ else _
  cases k with
  | true => exact ⟨μ1, env, s1, hv.grow g1, hs1, p1⟩
  | false => exact ⟨μ1, env, s1, hv.grow g1, hs1, p1⟩)
theorem ts_asg {K : PySem.W.Frag} {g : D → Env → M Env} : ∀ Dd σ H, TSof K E (asgS me g) Dd σ H → tAsg (TEof K E me) (TGof K E g) Dd σ H := by
  rintro Dd σ H ⟨μ, env, s, hv, hs, post⟩
  refine ⟨μ, env, s, hv, hs, (Post.bind post).mono fun d s1 μ1 H1 g1 hs1 p1 v hr => ?_⟩
  exact ⟨μ1, env, s1, d, hv.grow g1, hs1, hr, (Post.bind p1).mono fun env2 s2 μ2 H2 g2 hs2 p2 σ2 hv2 => okO_next hs2 hv2 p2⟩
theorem ss_asg {g : D → Env → M Env} (he : SE X E e me) (hg : SG X E tg g) (hs : swapsWithSole [tg] e pos.line X.env = pure false := by rfl) (hw : swappedStores [tg] e X.env = pure none := by rfl) (h1 : (assignEach [tg] X.env).map (·.2) = [assign tg X.env] := by rfl) : SS X E (.Assign [tg] e pos) (asgS me g) := PS.imp (ps_asg he hg hs hw h1) ts_asg
theorem ts_set {K : PySem.W.Frag} {i : Nat} {t : TE} (ht : ∀ σ H Q, TEof K E me σ H Q → t σ H Q) : ∀ Dd σ H, TSof K E (setS i me) Dd σ H → tAsg t (gName i) Dd σ H := by
  rintro Dd σ H ⟨μ, env, s, hv, hs, post⟩
  exact ht _ _ _ ⟨μ, env, s, hv, hs, (Post.bind post).mono fun d s1 μ1 H1 g1 hs1 p1 v hr => okO_next hs1 ((hv.grow g1).set hr i) p1⟩
theorem ss_set (i : Nat) {x : Str} {pos' : Pos} (hN : X.N.Nodup) (he : SE X E e me) (hi : X.N[i]? = some x := by rfl) (hx : Loc X.env.scope x := by first | exact Or.inl rfl | exact Or.inr rfl) (hs : swapsWith e (some (.Name x pos')) pos.line X.env = pure false := by rfl) (hf : X.fn x = true ∨ X.env.scope.names.lookup x = some .local := by first | exact .inl rfl | exact .inr rfl | assumption) :
    SS X E (.Assign [.Name x pos'] e pos) (setS i me) := PS.imp (ps_set hN hi hx he hs hf) (ts_set fun _ _ _ h => h)
theorem ss_setComp {elt iter : Expr} {ifs : List Expr} {scope : Scope} {mi : Env → M Src} {t : Env → M Bool} {ee : Env → M D} (i : Nat) {y : Str} {py spos : Pos} {g : D → Env → M Env} {gt : TG} {own : List (Str × Nat)} (hc : X.calm = true) (hN : X.N.Nodup) (hi : SI X E tg iter mi) (ok : BlkOk X.N X.env.scope scope own) (hgt : GtOk X.K E g gt (own.map (·.2)))
    (hg : ∀ (s : Shared) (H : Hp) (C : Addr) (cl : List (Str × Addr)) (fp : List Addr), PG (X.blk s H scope (compEnvC scope cl C X.env) fp) tg gt) (ht : ∀ (s : Shared) (H : Hp) (C : Addr) (cl : List (Str × Addr)) (fp : List Addr), STs (X.blk s H scope (compEnvC scope cl C X.env) fp) E ifs t)
    (he : ∀ (s : Shared) (H : Hp) (C : Addr) (cl : List (Str × Addr)) (fp : List Addr), SE (X.blk s H scope (compEnvC scope cl C X.env) fp) E elt ee) (hy : X.N[i]? = some y := by rfl) (hyl : X.env.scope.names.lookup y = some .local := by rfl)
    (hsw : swapsWith (.ListComp elt [⟨tg, iter, ifs, 0⟩] scope pos) (some (.Name y py)) spos.line X.env = pure true := by exact sw_true rfl rfl rfl (by decide +kernel)) (hs : ∀ x, foldedSetIterable iter X.env x = pure x := by intro _; rfl) :
    SS X E (.Assign [.Name y py] (.ListComp elt [⟨tg, iter, ifs, 0⟩] scope pos) spos) (setS i (compM mi g t ee (own.map (·.2)))) := PS.imp (ps_setLc (tt := TTof X.K E t) (te := TEof X.K E ee) hc hN hy hyl hsw hi ok hg ht he hs) (ts_set (te_comp hgt))
theorem ss_setCompF {elt iter : Expr} {ifs : List Expr} {scope : Scope} {mi : Env → M Src} {t : Env → M Bool} {ee : Env → M D} (i : Nat) {y : Str} {py spos : Pos} {g : D → Env → M Env} {gt : TG} {own : List (Str × Nat)} (hc : X.calm = true) (hN : X.N.Nodup) (hi : SI X E tg iter mi) (ok : BlkOk X.N X.env.scope scope own) (hgt : GtOk X.K E g gt (own.map (·.2)))
    (hg : ∀ (s : Shared) (H : Hp) (C : Addr) (cl : List (Str × Addr)) (fp : List Addr), PG (X.blk s H scope (compEnvC scope cl C X.env) fp) tg gt) (ht : ∀ (s : Shared) (H : Hp) (C : Addr) (cl : List (Str × Addr)) (fp : List Addr), STs (X.blk s H scope (compEnvC scope cl C X.env) fp) E ifs t)
    (he : ∀ (s : Shared) (H : Hp) (C : Addr) (cl : List (Str × Addr)) (fp : List Addr), SE (X.blk s H scope (compEnvC scope cl C X.env) fp) E elt ee) (hy : X.N[i]? = some y := by rfl) (hyl : X.env.scope.names.lookup y = some .local := by rfl)
    (hsw : swapsWith (.ListComp elt [⟨tg, iter, ifs, 0⟩] scope pos) (some (.Name y py)) spos.line X.env = pure true := by exact sw_true rfl rfl rfl (by decide +kernel)) (hs : ∀ x, foldedSetIterable iter X.env x = pure x := by intro _; rfl) :
    SS X E (.Assign [.Name y py] (.ListComp elt [⟨tg, iter, ifs, 0⟩] scope pos) spos) (setS i (compF mi g t ee (own.map (·.2)))) := PS.imp (ps_setLc (tt := TTof X.K E t) (te := TEof X.K E ee) hc hN hy hyl hsw hi ok hg ht he hs) (ts_set (te_compF hgt))
theorem ss_par (i j : Nat) {x y : Str} {px py pt : Pos} {kt : Nat} {k2 : Nat} {pt2 : Pos} (hc : X.calm = true) (hN : X.N.Nodup) (ha : SE X E a ma) (hb : SE X E b mb) (hi : X.N[i]? = some x := by rfl) (hj : X.N[j]? = some y := by rfl) (hij : i ≠ j := by decide)
    (hx : X.env.scope.names.lookup x = some .local := by rfl) (hy : X.env.scope.names.lookup y = some .local := by rfl) (hst : starEach [a, b] X.env = (false, eval a X.env) :: starEach [b] X.env := by rfl) (hst2 : starEach [b] X.env = (false, eval b X.env) :: starEach [] X.env := by rfl)
    (hw : swappedStores [.Tuple [.Name x px, .Name y py] kt pt] (.Tuple [a, b] k2 pt2) X.env = pure (some [x, y]) := by rfl)
    (hs : swapsWithSole [.Tuple [.Name x px, .Name y py] kt pt] (.Tuple [a, b] k2 pt2) pos.line X.env = pure false := by rfl) :
    SS X E (.Assign [.Tuple [.Name x px, .Name y py] kt pt] (.Tuple [a, b] k2 pt2) pos) (parS i j ma mb) := PS.imp (ps_par hc hN hi hj hij hx hy (pa_cons ha (pa_cons hb pa_nil hst2) hst) hw hs) (by
  rintro Dd σ H ⟨μ, env, s, hv, hs, post⟩
  refine ⟨μ, env, s, hv, hs, (Post.bind post).mono fun d s1 μ1 H1 g1 hs1 p1 v hr => ?_⟩
  refine ⟨μ1, env, s1, hv.grow g1, hs1, (Post.bind p1).mono fun e s2 μ2 H2 g2 hs2 p2 w hw => ?_⟩
  exact ⟨v, w, rfl, okO_next hs2 ((((hv.grow g1).grow g2).set (Rep.grow g2 _ _ hr) i).set hw j) p2⟩)
theorem ip_addD : PIp X .Add (R2of X.K E (int2 fun i j => .int (i + j))) := by
  intro pins s σ H x y v u Q I rx ry h
  obtain ⟨μ, st, dx, dy, hs, hx, hy, post⟩ := h
  obtain ⟨i, j, rfl, rfl, p⟩ := int2_rep hs hx hy post
  exact ip_add pins s σ H _ _ v u Q I rx ry ⟨i, j, rfl, rfl, post_int hs p⟩
theorem ip_subD : PIp X .Sub (R2of X.K E (int2 fun i j => .int (i - j))) := by
  intro pins s σ H x y v u Q I rx ry h
  obtain ⟨μ, st, dx, dy, hs, hx, hy, post⟩ := h
  obtain ⟨i, j, rfl, rfl, p⟩ := int2_rep hs hx hy post
  exact ip_sub pins s σ H _ _ v u Q I rx ry ⟨i, j, rfl, rfl, post_int hs p⟩
theorem ss_aug (i : Nat) {x : Str} {op : Operator} {f : D → D → M D} {pos' : Pos} (hN : X.N.Nodup) (ho : PIp X op (R2of X.K E f)) (he : SE X E e me) (hi : X.N[i]? = some x := by rfl) (hx : Loc X.env.scope x := by first | exact Or.inl rfl | exact Or.inr rfl) (hf : X.fn x = true ∨ X.env.scope.names.lookup x = some .local := by first | exact .inl rfl | exact .inr rfl | assumption) :
    SS X E (.AugAssign (.Name x pos') op e pos) (augS i f me) := PS.imp (ps_aug hN hi hx he ho hf) (by
  rintro Dd σ H ⟨μ, env, s, hv, hs, post⟩
  unfold augS varM at post
  cases ee : env[i]? with
  | none => rw [ee] at post; exact (show False from post).elim
  | some o =>
    cases o with
    | none => rw [ee] at post; exact (show False from post).elim
    | some d =>
      rw [ee] at post
      obtain ⟨v, h1, h2⟩ := hv.val i d ee
      have post2 : Post X.K E μ H ((me env >>= fun y => f d y >>= fun z => Pure.pure (Out.nx (env.set i (some z)))) s) (okO X.K Dd) := post
      refine ⟨v, h1, μ, env, s, hv, hs, (Post.bind post2).mono fun y s1 μ1 H1 g1 hs1 p1 w hr => ?_⟩
      refine ⟨μ1, s1, d, y, hs1, Rep.grow g1 d v h2, hr, (Post.bind p1).mono fun z s2 μ2 H2 g2 hs2 p2 u hu => ?_⟩
      exact okO_next hs2 (((hv.grow g1).grow g2).set hu i) p2)
theorem whileN_mono {b : Env → M Out} : ∀ (k : Nat) (env : Env) (s : S), whileN mc b k env s ≠ .stuck → ∀ j, whileN mc b (k + j) env s = whileN mc b k env s
  | 0, env, s, h, j => absurd rfl h
  | k + 1, env, s, h, j => by
    rw [Nat.add_right_comm]
    unfold whileN at h ⊢
    rw [bind_run] at h ⊢
    cases e1 : mc env s with
    | stuck => rw [bind_run, e1]
    | exc c s1 => rw [bind_run, e1]
    | ok t s1 =>
      rw [e1] at h
      rw [bind_run, e1]
      cases t with
      | false => rfl
      | true =>
        simp only [if_true] at h ⊢
        rw [bind_run] at h ⊢
        cases e2 : b env s1 with
        | stuck => rw [bind_run, e2]
        | exc c s2 => rw [bind_run, e2]
        | ok o s2 =>
          rw [e2] at h
          rw [bind_run, e2]
          cases o with
          | nx env2 => exact whileN_mono k env2 s2 h j
          | ct env2 => exact whileN_mono k env2 s2 h j
          | bk env2 => rfl
          | rt d => rfl
theorem whileS_eq {b : Env → M Out} {k : Nat} {env : Env} {s : S} (h : whileN mc b k env s ≠ .stuck) : whileS mc b env s = whileN mc b k env s := by
  have hx : ∃ k, whileN mc b k env s ≠ .stuck := ⟨k, h⟩
  have hc := Classical.choose_spec hx
  have e1 : whileS mc b env s = whileN mc b (Classical.choose hx) env s := dif_pos hx
  rw [e1, ← whileN_mono _ env s hc k, ← whileN_mono k env s h (Classical.choose hx), Nat.add_comm]
theorem ss_while {body : List Stmt} (hp : PassesOwn (model X.prog X.w) X.A X.env X.xe) (hc : ST X E c mc) (hb : SSs X E body m) : SS X E (.While c body [] pos) (whileS mc m) := PS.imp (ps_while hp hc hb) (by
  rintro Dd σ H ⟨μ, env, s, hv, hs, post⟩
  by_cases hx : ∃ k, whileN mc m k env s ≠ .stuck
  · have e1 : whileS mc m env s = whileN mc m (Classical.choose hx) env s := dif_pos hx
    rw [e1] at post
    let W : Nat → L2.St → Hp → Prop := fun k σ' H' => ∃ μ' env' s', SimV X.K μ' H' σ' env' ∧ SimS X.K μ' H' s' ∧ Post X.K E μ' H' (whileN mc m k env' s') (okO X.K Dd)
    refine ⟨W, ⟨_, μ, env, s, hv, hs, post⟩, ?_⟩
    rintro k σ' H' ⟨μ', env', s', hv', hs', p⟩
    cases k with
    | zero => exact (show False from p).elim
    | succ k =>
      refine ⟨μ', env', s', hv', hs', (Post.bind (show Post X.K E μ' H' ((mc env' >>= _) s') (okO X.K Dd) from p)).mono fun b s1 μ1 H1 g1 hs1 p1 => ?_⟩
      show if b = true then _ else _
      cases b with
      | false => exact okO_next hs1 (hv'.grow g1) p1
      | true =>
        refine ⟨W k, fun σ2 H2 q => ⟨k, Nat.lt_succ_self k, q⟩, μ1, env', s1, hv'.grow g1, hs1, (Post.bind p1).mono fun o s2 μ2 H2 g2 hs2 p2 => ?_⟩
        cases o with
        | nx env2 => exact fun σ2 hv2 => ⟨μ2, env2, s2, hv2, hs2, p2⟩
        | ct env2 => exact fun σ2 hv2 => ⟨μ2, env2, s2, hv2, hs2, p2⟩
        | bk env2 => exact fun σ2 hv2 => okO_next hs2 hv2 p2
        | rt d => exact Post.now (E := E) (a := Out.rt d) p2 hs2
  · have e1 : whileS mc m env s = .stuck := dif_neg hx
    rw [e1] at post
    exact (show False from post).elim)
theorem ss_for {iter : Expr} {body : List Stmt} {mi : Env → M Src} {g : D → Env → M Env} (hp : PassesOwn (model X.prog X.w) X.A X.env X.xe) (hc : X.calm = true) (hi : SI X E tg iter mi) (hg : SG X E tg g) (hb : SSs X E body m)
    (hs : ∀ x, foldedSetIterable iter X.env x = pure x := by intro _; rfl) : SS X E (.For tg iter body [] pos) (forS mi g m) := PS.imp (ps_for hp hc hi hg hb hs) (by
  rintro Dd σ H ⟨μ, env, s, hv, hs, post⟩
  refine ⟨μ, env, s, hv, hs, (Post.bind post).mono fun r s1 μ1 H1 g1 hs1 p1 J hJ => ?_⟩
  let W : Nat → Nat → L2.St → Hp → Prop := fun i k σ' H' => k = r.items.length - i ∧ ∃ μ' env' s', Grow μ1 H1 μ' H' ∧ SimV X.K μ' H' σ' env' ∧ SimS X.K μ' H' s' ∧ i ≤ r.items.length ∧ Post X.K E μ' H' (loopM r g m (r.items.drop i) env' s') (okO X.K Dd)
  refine ⟨W, ⟨_, rfl, μ1, env, s1, Grow.refl _ _, hv.grow g1, hs1, Nat.zero_le _, p1⟩, ?_⟩
  rintro i k σ' H' ⟨rfl, μ', env', s', g2, hv', hs', hile, p⟩
  by_cases hi : i < r.items.length
  · right
    have hd : r.items[i]? = some r.items[i] := List.getElem?_eq_getElem hi
    rw [List.drop_eq_getElem_cons hi] at p
    obtain ⟨ok, p2⟩ := guard_ok (show Post X.K E μ' H' ((guardM r >>= _) s') (okO X.K Dd) from p)
    obtain ⟨go, yl⟩ := (hJ μ' H' s' g2.w hs' ok).1 i _ hd
    refine ⟨go, fun σ3 H3 => W (i + 1) (r.items.length - (i + 1)) σ3 H3, fun σ3 H3 q => ⟨_, by omega, q⟩, fun x H3 y => ?_⟩
    obtain ⟨g3, hs3, rx⟩ := yl x H3 y
    refine ⟨μ', env', s', _, hv'.grow g3, hs3, rx, (Post.bind (Post.later g3 p2)).mono fun env4 s4 μ4 H4 g4 hs4 p4 σ4 hv4 => ?_⟩
    refine ⟨μ4, env4, s4, hv4, hs4, (Post.bind p4).mono fun o s5 μ5 H5 g5 hs5 p5 => ?_⟩
    have gg := (g2.trans g3).trans (g4.trans g5)
    cases o with
    | nx env5 => exact fun σ5 hv5 => ⟨rfl, μ5, env5, s5, gg, hv5, hs5, hi, p5⟩
    | ct env5 => exact fun σ5 hv5 => ⟨rfl, μ5, env5, s5, gg, hv5, hs5, hi, p5⟩
    | bk env5 => exact fun σ5 hv5 => okO_next hs5 hv5 p5
    | rt d => exact Post.now (E := E) (a := Out.rt d) p5 hs5
  · left
    have ei : i = r.items.length := by omega
    subst ei
    rw [List.drop_length] at p
    obtain ⟨ok, p2⟩ := guard_ok (show Post X.K E μ' H' ((guardM r >>= _) s') (okO X.K Dd) from p)
    exact ⟨(hJ μ' H' s' g2.w hs' ok).2, okO_next hs' hv' p2⟩)
end

/-! ### methods of lists -/
def isL (x : D) : M Unit := match x with
  | .ptr n => fun s => match s[n]? with
    | some (.lst _) => .ok () s
    | _ => .stuck
  | _ => stuck
def methM (f : D → List D → M D) (mo : Env → M D) (ma : Env → M (List D)) (env : Env) : M D := mo env >>= fun x => isL x >>= fun _ => ma env >>= fun ds => f x ds
def putC (n : Nat) (c : Cell) (d : D) : M D := fun s => .ok d (s.set n c)
def lstOf (x : D) (k : Nat → List D → M D) : M D := match x with
  | .ptr n => fun s => match s[n]? with
    | some (.lst ds) => k n ds s
    | _ => .stuck
  | _ => stuck
def appendD (x : D) (as : List D) : M D := lstOf x fun n ds => match as with
  | [d] => if ds.length ≤ 100000 then putC n (.lst (ds ++ [d])) .non else stuck
  | _ => stuck
def popD (x : D) (as : List D) : M D := lstOf x fun n ds => match as with
  | [] => (match ds[ds.length - 1]? with
    | some d => putC n (.lst ds.dropLast) d
    | none => stuck)
  | _ => stuck
theorem lstOf_rep {K : PySem.W.Frag} {E : XK} {μ : Mu} {H : Hp} {s : S} {x : D} {v : V} {k : Nat → List D → M D} {q : D → S → Mu → Hp → Prop} (hs : SimS K μ H s) (r : Rep K μ H v x) (post : Post K E μ H (lstOf x k s) q) :
    ∃ a n ds xs, v = .ref a ∧ μ.c[n]? = some a ∧ s[n]? = some (.lst ds) ∧ H a = some (.lst xs) ∧ RepL K μ H xs ds ∧ Post K E μ H (k n ds s) q := by
  unfold lstOf at post
  cases r with
  | @ptr a n hn =>
    cases ec : s[n]? with
    | none => simp only [ec] at post; exact (show False from post).elim
    | some cl =>
      simp only [ec] at post
      cases cl with
      | lst ds =>
        obtain ⟨xs, h1, h2⟩ := cell_lst hs hn ec
        exact ⟨a, n, ds, xs, rfl, hn, ec, h1, h2, post⟩
      | dK kvs => exact (show False from post).elim
      | dT kvs => exact (show False from post).elim
      | dN kvs => exact (show False from post).elim
      | fN kvs => exact (show False from post).elim
      | ins C fs => exact (show False from post).elim
      | fK kvs => exact (show False from post).elim
  | _ => exact (show False from post).elim
theorem put_lst {K : PySem.W.Frag} {E : XK} {μ : Mu} {H : Hp} {s : S} {n : Nat} {a : Addr} {xs ys : List V} {ds : List D} {d : D} {v : V} {Q : VK} (hs : SimS K μ H s) (hn : μ.c[n]? = some a) (h : H a = some (.lst xs)) (l : RepL K μ H ys ds) (r : Rep K μ H v d)
    (post : Post K E μ H (putC n (.lst ds) d s) (okD K Q)) : Q v (upd H a (.lst ys)) := by
  have hm : Mut (H a) := by rw [h]; trivial
  have g := grow_put (μ := μ) (H := H) (a := a) (o := .lst ys) hm (List.mem_of_getElem? hn)
  exact post _ _ g (hs.put hn hm ⟨_, upd_same, RepL.grow g _ _ l⟩) v (Rep.grow g _ _ r)
section
variable {X : Cx} {E : XK} {o e : Expr} {es : List Expr} {mo : Env → M D} {ma : Env → M (List D)} {apos cpos : Pos} {name : Str} {id : String}
theorem te_meth {K : PySem.W.Frag} {f : D → List D → M D} {r : V → List V → Hp → VK → Prop} (hr : ∀ x xs H Q, RMof K E f x xs H Q → r x xs H Q) : ∀ σ H Q, TEof K E (methM f mo ma) σ H Q → tBM K "list" r (TEof K E mo) (TAof K E ma) σ H Q := by
  rintro σ H Q ⟨μ, env, s, hv, hs, post⟩
  refine ⟨μ, env, s, hv, hs, (Post.bind post).mono fun x s1 μ1 H1 g1 hs1 p1 v hx => ?_⟩
  rw [bind_run] at p1
  unfold isL at p1
  cases hx with
  | @ptr a n hn =>
    cases ec : s1[n]? with
    | none => simp only [ec] at p1; exact (show False from p1).elim
    | some cl =>
      simp only [ec] at p1
      cases cl with
      | lst ds =>
        obtain ⟨xs, h1, h2⟩ := cell_lst hs1 hn ec
        refine ⟨.inl ⟨rfl, xs, SqL.of h1⟩, μ1, env, s1, hv.grow g1, hs1, (Post.bind p1).mono fun ds2 s2 μ2 H2 g2 hs2 p2 vs hl => ?_⟩
        exact hr _ _ _ _ ⟨μ2, s2, _, ds2, hs2, .ptr (g2.at hn), hl, p2⟩
      | dK kvs => exact (show False from p1).elim
      | dT kvs => exact (show False from p1).elim
      | dN kvs => exact (show False from p1).elim
      | fN kvs => exact (show False from p1).elim
      | ins C fs => exact (show False from p1).elim
      | fK kvs => exact (show False from p1).elim
  | _ => exact (show False from p1).elim
theorem se_append (ho : SE X E o mo) (ha : SA X E [e] ma) (hbase : attributeBase o "append" X.env (eval o X.env) = eval o X.env := by rfl)
    (hline : (apos.endLine == cpos.line) = true := by rfl) (hs : starEach [e] X.env = (false, eval e X.env) :: starEach [] X.env := by rfl) : SE X E (.Call (.Attribute o "append" apos) [e] [] cpos) (methM appendD mo ma) := PE.imp (pe_bm PySem.F.plainAttrs_list PySem.F.slot_list_append PySem.F.type_list_append mt_append ho ha hbase (by rw [hs]; rfl) hline hs rfl) (te_meth (by
  rintro x xs H Q ⟨μ, s, dx, ds, hs, hx, hl, post⟩
  obtain ⟨a, n, es, ys, rfl, hn, ec, h1, h2, p⟩ := lstOf_rep hs hx post
  cases hl with
  | nil => exact (show False from p).elim
  | cons r t =>
    cases t with
    | nil =>
      simp only [] at p
      split at p
      · rename_i hz
        exact ⟨a, ys, _, rfl, rfl, h1, Nat.lt_of_le_of_lt (by rw [h2.length]; exact hz) (by decide), put_lst hs hn h1 (h2.append (.cons r .nil)) .non p⟩
      · exact (show False from p).elim
    | cons r' t' => exact (show False from p).elim))
end

/-! ### a def -/
def startE (N : Nat) (ds : List D) : Env := ds.map some ++ List.replicate (N - ds.length) none
def outM (o : Out) : M D := match o with
  | .nx _ => pure .non
  | .rt d => pure d
  | _ => stuck
def fnM (N : Nat) (m : Env → M Out) (ds : List D) : M D := m (startE N ds) >>= outM
section
variable {P : Program} {w : World} {K : PySem.W.Frag} {mg : Str → Option Value} {base : Heap}
theorem simV_start {μ : Mu} {H : Hp} {vs : List V} {ds : List D} (N : List Str) (h : RepL K μ H vs ds) : SimV K μ H (start N vs) (startE N.length ds) := by
  unfold L2.start startE
  have hl := h.length
  refine ⟨by simp only [List.length_append, List.length_map, List.length_replicate, hl], fun i d e => ?_⟩
  by_cases hi : i < ds.length
  · rw [List.getElem?_append_left (by rw [List.length_map]; exact hi), List.getElem?_map] at e
    cases ed : ds[i]? with
    | none => rw [ed] at e; cases e
    | some d' =>
      rw [ed] at e
      cases e
      obtain ⟨v, hv, r⟩ := h.get ed
      exact ⟨v, by rw [List.getElem?_append_left (by rw [List.length_map, hl]; exact hi), List.getElem?_map, hv]; rfl, r⟩
  · rw [List.getElem?_append_right (by rw [List.length_map]; omega)] at e
    have := List.mem_of_getElem? e
    rw [List.mem_replicate] at this
    cases this.2
/-- THE RULE for a def: its body mirrored -/
theorem fn_ok {x qual : Str} {st : Stmt} {f : Addr} {fd : FuncData} {N ps : List Str} {k n : Nat} {m : Env → M Out} (F : Fun K x qual st f fd) (Sc : FnScope N ps (defScope st)) (hn : ps.length = n)
    (hbody : ∀ (cdv : Value) (A : Around) (outer : List PySem.Env) (s : Shared) (H : Hp) (E : XK), Room k (A.deeper (envOfC qual (defScope st) s.heap.objs.size f cdv)) → SSs (cxOf CX0 P w K mg base N qual (defScope st) f cdv A outer s H E).nox E (defBody st) m) :
    FnOk P w K mg base CX0 (k + 1) f fd ps (spM K n (fnM N.length m)) := by
  refine F.ok Sc (fun vs H Q E h => ?_) (fun cdv A outer s H vs Q E hr h => ?_)
  · obtain ⟨μ, s, ds, hs, hl, hlen, p⟩ := h
    rw [hl.length, hlen, hn]
  · obtain ⟨μ, s0, ds, hs, hl, hlen, p⟩ := h
    refine ⟨_, hbody cdv A outer s H E hr, μ, startE N.length ds, s0, simV_start N hl, hs, (Post.bind p).mono fun o s1 μ1 H1 g1 hs1 p1 => ?_⟩
    cases o with
    | nx env => exact fun σ' _ => post_val hs1 p1 .non
    | rt d => exact fun v hr => post_val hs1 p1 hr
    | bk env => exact (show False from p1).elim
    | ct env => exact (show False from p1).elim
/-- a better mirror of the same def -/
theorem fn_imp {k n : Nat} {f : Addr} {fd : FuncData} {ps : List Str} {F G : List D → M D} {CX : CXT} (h : FnOk P w K mg base CX k f fd ps (spM K n F))
    (hg : ∀ (E : XK) (ds : List D) (s : S) (μ : Mu) (H : Hp) (Q : VK), ds.length = n → SimS K μ H s → Post K E μ H (G ds s) (okD K Q) → Post K E μ H (F ds s) (okD K Q)) : FnOk P w K mg base CX k f fd ps (spM K n G) :=
  h.imp fun vs H Q E ⟨μ, s, ds, hs, hl, hlen, p⟩ => ⟨μ, s, ds, hs, hl, hlen, hg E ds s μ H Q hlen hs p⟩
end
end PL

/-! PL6: what the top leaves, the law's end, what a call may leave behind. -/
namespace PL
open PySem PySem.Spec PyProof.Rows L2

theorem passA {X : Cx} {E : XK} : Passes CX0 X E := fun _ _ _ _ _ _ _ h => h.elim
section
variable {P : Program} {w : World} {K : PySem.W.Frag} {mg : Str → Option Value} {base : Heap}
structure DefOk (K : PySem.W.Frag) (mg : Str → Option Value) (x : Str) (st : Stmt) (ps : List Str) (f : Addr) (fd : FuncData) : Prop where
  fn : Fun K x x st f fd
  b : Binds K fd ps []
  m : mg x = some (.ref f)
inductive DefIn (K : PySem.W.Frag) (x : Str) (st : Stmt) : Prop where
  | mk {f : Addr} {od an : Option Addr} {sl : Array (Option Value)} {oc kV dc pm cd ct : Value} (a : PySem.W.nsIn K mainGlobals x = some (some (.ref f)))
      (l : K.lookup f = some ⟨oc, od, .func (PySem.W.fnOf x x (defArgs st) (defBody st) (defScope st) .none kV dc pm an cd ct), sl⟩) (c : PySem.W.codeIn K cd x = true) (k : PySem.W.keepIn K (.ref f) = true) : DefIn K x st
theorem DefIn.get {x : Str} {st : Stmt} {h : Heap} (d : DefIn K x st) (ps : List Str) (X : K.In h) (G : h.Ns mainGlobals mg)
    (hb : ∀ (kV doc pm : Value) (an : Option Addr) (cdv ct : Value) (us : List Value), us.length = ps.length → bindArgs (PySem.W.fnOf x x (defArgs st) (defBody st) (defScope st) .none kV doc pm an cdv ct) ⟨us, []⟩ = pure (ps.zip us)) :
    ∃ f fd, DefOk K mg x st ps f fd ∧ ∀ (s : Shared) (us : List Value), us.length = ps.length → BindsTo s fd ⟨us, []⟩ (ps.zip us) := by
  obtain ⟨a, l, c, k⟩ := d
  have F := fun_mk (st := st) l c k
  exact ⟨_, _, ⟨F, F.binds hb, PySem.W.mg_of X G a⟩, fun s us hl => .of_eq (hb _ _ _ _ _ _ us hl)⟩
theorem fn_stuck {k n : Nat} {f : Addr} {fd : FuncData} {ps : List Str} {CX : CXT} : FnOk P w K mg base CX k f fd ps (spM K n fun _ => stuck) :=
  ⟨fun vs H Q E ⟨μ, s, ds, hs, hl, hlen, p⟩ => (show False from p).elim, fun A outer s H args us vs Q E hr he hb hv ⟨μ, st, ds, hs, hl, hlen, p⟩ => (show False from p).elim⟩
theorem law_end {H : Hp} {a : Addr} {ns : List Int} {F : List D → M D} (hO : Only H) (hS : SqL K H a (ns.map V.int)) (h : ∃ s', F [.flst (ns.map D.int)] [] = .ok (.bl true) s') :
    spM K 1 F [.ref a] H (fun v _ => v = .bl true) fun _ _ _ => False := by
  obtain ⟨s', e⟩ := h
  have hf : FrzL K H a (ns.map V.int) := by
    rcases hS with (h | ⟨o, h⟩) | h
    · rcases hO a with z | ⟨o, xs, z⟩
      · rw [h] at z; cases z
      · rw [h] at z; cases z
    · exact .inl ⟨o, h⟩
    · exact .inr h
  have hl : ∀ ms : List Int, RepL K ⟨[], []⟩ H (ms.map V.int) (ms.map D.int) := fun ms => by
    induction ms with
    | nil => exact .nil
    | cons m ms ih => exact .cons (.int m) ih
  refine ⟨⟨[], []⟩, [], [.flst (ns.map D.int)], ⟨rfl, List.nodup_nil, (fun _ h => nomatch h), (fun _ h => nomatch h), fun n c z => by simp at z⟩, .cons (.flst hf (hl ns)) .nil, rfl, ?_⟩
  rw [e]
  intro μ' H' g hs v hv
  cases hv
  rfl
end

/-! ### what a call leaves behind may be forgotten -/
mutual
inductive Cl (n : Nat) : D → Prop
  | non : Cl n .non
  | bl (b : Bool) : Cl n (.bl b)
  | int (i : Int) : Cl n (.int i)
  | str (x : Str) : Cl n (.str x)
  | tup {ds : List D} : ClL n ds → Cl n (.tup ds)
  | flst {ds : List D} : ClL n ds → Cl n (.flst ds)
  | vls {ds : List D} : ClL n ds → Cl n (.vls ds)
  | ptr {k : Nat} : k < n → Cl n (.ptr k)
  | rng (lo hi c : Int) : Cl n (.rng lo hi c)
inductive ClL (n : Nat) : List D → Prop
  | nil : ClL n []
  | cons {d : D} {ds : List D} : Cl n d → ClL n ds → ClL n (d :: ds)
end
mutual
theorem Rep.cl {K : PySem.W.Frag} {μ : Mu} {H : Hp} : ∀ (d : D) (v : V), Rep K μ H v d → Cl μ.c.length d
  | .non, _, h => .non
  | .bl b, _, h => .bl b
  | .int i, _, h => .int i
  | .str x, _, h => .str x
  | .tup ds, _, h => by
    cases h with
    | tup hs hl => exact .tup (RepL.cl ds _ hl)
  | .flst ds, _, h => by
    cases h with
    | flst hs hl => exact .flst (RepL.cl ds _ hl)
  | .vls ds, _, h => by
    cases h with
    | vls hs hl => exact .vls (RepL.cl ds _ hl)
  | .ptr n, _, h => by
    cases h with
    | ptr e => exact .ptr (List.getElem?_eq_some_iff.mp e).1
  | .rng lo hi c, _, h => .rng lo hi c
theorem RepL.cl {K : PySem.W.Frag} {μ : Mu} {H : Hp} : ∀ (ds : List D) (vs : List V), RepL K μ H vs ds → ClL μ.c.length ds
  | [], _, h => .nil
  | d :: ds, _, h => by
    cases h with
    | cons h1 h2 => exact .cons (Rep.cl d _ h1) (RepL.cl ds _ h2)
end
mutual
theorem Cl.rep {K : PySem.W.Frag} {c t h : List Addr} {H : Hp} : ∀ (d : D) (v : V), Cl c.length d → Rep K ⟨c ++ t, h⟩ H v d → Rep K ⟨c, h⟩ H v d
  | .non, _, _, h => by cases h; exact .non
  | .bl b, _, _, h => by cases h; exact .bl b
  | .int i, _, _, h => by cases h; exact .int i
  | .str x, _, _, h => by cases h; exact .str x
  | .tup ds, _, c, h => by
    cases h with
    | tup hs hl =>
      cases c with
      | tup c => exact .tup hs (ClL.rep ds _ c hl)
  | .flst ds, _, c, h => by
    cases h with
    | flst hs hl =>
      cases c with
      | flst c => exact .flst hs (ClL.rep ds _ c hl)
  | .vls ds, _, c, h => by
    cases h with
    | vls hs hl =>
      cases c with
      | vls c => exact .vls ⟨hs.at_, fun z => hs.nc (List.mem_append_left _ z), hs.nh⟩ (ClL.rep ds _ c hl)
  | .ptr n, _, c, h => by
    cases h with
    | ptr e =>
      cases c with
      | ptr c =>
        refine .ptr ?_
        rw [List.getElem?_append_left c] at e
        exact e
  | .rng lo hi c, _, _, h => by
    cases h with
    | rng h => exact .rng h
theorem ClL.rep {K : PySem.W.Frag} {c t h : List Addr} {H : Hp} : ∀ (ds : List D) (vs : List V), ClL c.length ds → RepL K ⟨c ++ t, h⟩ H vs ds → RepL K ⟨c, h⟩ H vs ds
  | [], _, _, h => by cases h; exact .nil
  | d :: ds, _, c, h => by
    cases h with
    | cons h1 h2 =>
      cases c with
      | cons c1 c2 => exact .cons (Cl.rep d _ c1 h1) (ClL.rep ds _ c2 h2)
end
def CellCl (n : Nat) : Cell → Prop
  | .lst ds => ClL n ds
  | .dK kvs => ClL n (kvs.map (·.2))
  | .dT kvs => ClL n (kvs.map (·.2))
  | .ins _ fs => ClL n (fs.map (·.2))
  | .fK kvs => ClL n (kvs.map (·.2))
  | .dN kvs => ClL n (kvs.map (·.2))
  | .fN kvs => ClL n (kvs.map (·.2))
theorem CellOk.cl {K : PySem.W.Frag} {μ : Mu} {H : Hp} {a : Addr} {c : Cell} (h : CellOk K μ H a c) : CellCl μ.c.length c := by
  cases c with
  | lst ds => obtain ⟨xs, _, r⟩ := h; exact RepL.cl _ _ r
  | dK kvs => obtain ⟨xs, _, r⟩ := h; exact RepL.cl _ _ r.2
  | dT kvs => obtain ⟨xs, _, r⟩ := h; exact RepL.cl _ _ r.2
  | ins C fs => obtain ⟨_, dx, xs, _, _, r⟩ := h; exact RepL.cl _ _ r.2
  | fK kvs => obtain ⟨o, xs, _, r⟩ := h; exact RepL.cl _ _ r.2
  | dN kvs => obtain ⟨ents, _, r⟩ := h; exact RepL.cl _ _ r.vs
  | fN kvs => obtain ⟨o, ents, _, r⟩ := h; exact RepL.cl _ _ r.vs
mutual
theorem cl_nk (n : Nat) : ∀ k : NestedKey, Cl n (nkD k)
  | .none => .non
  | .num i => .int i
  | .text x => .str x
  | .tup ks => .tup (cl_nks n ks)
theorem cl_nks (n : Nat) : ∀ ks : List NestedKey, ClL n (nkDs ks)
  | [] => .nil
  | k :: ks => .cons (cl_nk n k) (cl_nks n ks)
end
theorem CellCl.ok {K : PySem.W.Frag} {c t h : List Addr} {H : Hp} {a : Addr} {x : Cell} (k : CellCl c.length x) (e : CellOk K ⟨c ++ t, h⟩ H a x) : CellOk K ⟨c, h⟩ H a x := by
  cases x with
  | lst ds => obtain ⟨xs, e, r⟩ := e; exact ⟨xs, e, ClL.rep _ _ k r⟩
  | dK kvs => obtain ⟨xs, e, r⟩ := e; exact ⟨xs, e, r.1, ClL.rep _ _ k r.2⟩
  | dT kvs => obtain ⟨xs, e, r⟩ := e; exact ⟨xs, e, r.1, ClL.rep _ _ k r.2⟩
  | ins C fs => obtain ⟨c, dx, xs, hc, e, r⟩ := e; exact ⟨c, dx, xs, hc, e, r.1, ClL.rep _ _ k r.2⟩
  | fK kvs => obtain ⟨o, xs, e, r⟩ := e; exact ⟨o, xs, e, r.1, ClL.rep _ _ k r.2⟩
  | dN kvs => obtain ⟨ents, e, r⟩ := e; exact ⟨ents, e, r.ks, ClL.rep _ _ k r.vs, fun x hx => Cl.rep _ _ (cl_nk _ _) (r.at_ x hx), r.ok⟩
  | fN kvs => obtain ⟨o, ents, e, r⟩ := e; exact ⟨o, ents, e, r.ks, ClL.rep _ _ k r.vs, fun x hx => Cl.rep _ _ (cl_nk _ _) (r.at_ x hx), r.ok⟩
/-- a store whose pointers stay within it -/
def SCl (s : S) : Prop := ∀ c ∈ s, CellCl s.length c
theorem SimS.scl {K : PySem.W.Frag} {μ : Mu} {H : Hp} {s : S} (h : SimS K μ H s) : SCl s := fun c hc => by
  obtain ⟨n, hn⟩ := List.getElem?_of_mem hc
  obtain ⟨a, _, h2⟩ := h.cell n c hn
  rw [← h.len]
  exact h2.cl
/-- the store s' may be cut back to the length of s -/
def Cut (s s' : S) : Prop := s.length ≤ s'.length ∧ ∀ (i : Nat) (c : Cell), i < s.length → s'[i]? = some c → s[i]? = some c ∨ CellCl s.length c
def thawD (s : S) (d : D) : Option (List D) := match d with
  | .ptr j => match s[j]? with
    | some (.lst ds) => some ds
    | _ => none
  | _ => none
open Classical in
noncomputable def cutR (s : S) (r : R D) : R D := match r with
  | .stuck => .stuck
  | .exc c s' => if Cut s s' then .exc c (s'.take s.length) else .exc c s'
  | .ok d s' => if Cut s s' then (if Cl s.length d then .ok d (s'.take s.length) else match thawD s' d with
    | some ds => if ClL s.length ds then .ok (.vls ds) (s'.take s.length) else .ok d s'
    | none => .ok d s') else .ok d s'
/-- a def whose own cells are forgotten when it is left -/
noncomputable def fnF (N : Nat) (m : Env → M Out) (ds : List D) : M D := fun s => cutR s (fnM N m ds s)
theorem cut_sim {K : PySem.W.Frag} {μ μ' : Mu} {H H' : Hp} {s s' : S} (hs : SimS K μ H s) (g : Grow μ H μ' H') (hs' : SimS K μ' H' s') (hc : Cut s s') : Grow μ H ⟨μ.c, μ'.h⟩ H' ∧ SimS K ⟨μ.c, μ'.h⟩ H' (s'.take s.length) := by
  obtain ⟨t, ht⟩ := g.pre
  obtain ⟨c', h'⟩ := μ'
  simp only [] at ht
  subst ht
  refine ⟨⟨⟨[], (List.append_nil μ.c).symm⟩, g.hid, g.tup, g.frz, fun a o h n => g.frm a o h fun z => ?_, fun a h => .inl h, g.trk⟩, ⟨?_, hs.nd, hs'.hok, fun p hp z => hs'.dis p hp (List.mem_append_left _ z), fun n x e => ?_⟩⟩
  · rcases g.new a z with z | z
    · exact n z
    · rw [h] at z
      cases z
  · show μ.c.length = _
    rw [List.length_take, hs.len, Nat.min_eq_left hc.1]
  · have hn : n < s.length := by
      have q := (List.getElem?_eq_some_iff.mp e).1
      rw [List.length_take] at q
      omega
    rw [List.getElem?_take_of_lt hn] at e
    obtain ⟨a, ha, ho⟩ := hs'.cell n x e
    have ha2 : μ.c[n]? = some a := by
      have : (μ.c ++ t)[n]? = some a := ha
      rw [List.getElem?_append_left (by rw [hs.len]; exact hn)] at this
      exact this
    refine ⟨a, ha2, CellCl.ok (t := t) ?_ ho⟩
    rcases hc.2 n x hn e with q | q
    · have := hs.scl x (List.mem_of_getElem? q)
      show CellCl μ.c.length x
      rw [hs.len]
      exact this
    · show CellCl μ.c.length x
      rw [hs.len]
      exact q
theorem Post.cut {K : PySem.W.Frag} {E : XK} {μ : Mu} {H : Hp} {s : S} {r : R D} {Q : VK} (hs : SimS K μ H s) (p : Post K E μ H (cutR s r) (okD K Q)) : Post K E μ H r (okD K Q) := by
  cases r with
  | stuck => exact p
  | exc c s' =>
    intro C hC μ' H' g hs'
    unfold cutR at p
    simp only [] at p
    split at p
    · rename_i hc
      obtain ⟨g2, hs2⟩ := cut_sim hs g hs' hc
      exact p C hC _ _ g2 hs2
    · exact p C hC _ _ g hs'
  | ok d s' =>
    intro μ' H' g hs' v hv
    unfold cutR at p
    simp only [] at p
    split at p
    · rename_i hc
      obtain ⟨g2, hs2⟩ := cut_sim hs g hs' hc
      obtain ⟨t, ht⟩ := g.pre
      obtain ⟨c', h'⟩ := μ'
      simp only [] at ht
      subst ht
      split at p
      · rename_i hd
        exact p _ _ g2 hs2 v (Cl.rep (t := t) d v (by rw [hs.len]; exact hd) hv)
      · rename_i hd
        split at p
        · rename_i ds e
          split at p
          · rename_i hl
            unfold thawD at e
            cases hv with
            | @ptr a j hj =>
              simp only [] at e
              cases ec : s'[j]? with
              | none => rw [ec] at e; cases e
              | some x =>
                rw [ec] at e
                cases x with
                | lst es =>
                  cases e
                  obtain ⟨xs, q, r⟩ := cell_lst hs' hj ec
                  have hj2 : ¬ j < s.length := fun z => hd (.ptr z)
                  have hj3 : (μ.c ++ t)[j]? = some a := hj
                  refine p _ _ g2 hs2 (.ref a) (.vls ⟨q, fun z => ?_, fun z => hs'.dis a z (List.mem_of_getElem? hj)⟩ (ClL.rep (t := t) _ _ (by rw [hs.len]; exact hl) r))
                  obtain ⟨i, hi⟩ := List.getElem?_of_mem z
                  have hi1 : i < μ.c.length := (List.getElem?_eq_some_iff.mp hi).1
                  have hi2 : (μ.c ++ t)[i]? = some a := by rw [List.getElem?_append_left hi1]; exact hi
                  have e1 : i = j := nd_ix hs'.nd hi2 hj3
                  have := hs.len
                  omega
                | dK kvs => cases e
                | dT kvs => cases e
                | dN kvs => cases e
                | fN kvs => cases e
                | ins C fs => cases e
                | fK kvs => cases e
            | _ => cases e
          · exact p _ _ g hs' v hv
        · exact p _ _ g hs' v hv
    · exact p _ _ g hs' v hv
theorem fn_okF {P : Program} {w : World} {K : PySem.W.Frag} {mg : Str → Option Value} {base : Heap} {x qual : Str} {st : Stmt} {f : Addr} {fd : FuncData} {N ps : List Str} {k n : Nat} {m : Env → M Out} (F : Fun K x qual st f fd) (Sc : FnScope N ps (defScope st)) (hn : ps.length = n)
    (hbody : ∀ (cdv : Value) (A : Around) (outer : List PySem.Env) (s : Shared) (H : Hp) (E : XK), Room k (A.deeper (envOfC qual (defScope st) s.heap.objs.size f cdv)) → SSs (cxOf CX0 P w K mg base N qual (defScope st) f cdv A outer s H E).nox E (defBody st) m) :
    FnOk P w K mg base CX0 (k + 1) f fd ps (spM K n (fnF N.length m)) := fn_imp (fn_ok F Sc hn hbody) fun E ds s μ H Q _ hs p => Post.cut hs p
end PL

/-! PL7: mirrors run: equations for simp. -/
namespace PL
open PySem PySem.Spec PyProof.Rows L2

/-- go on behind an answer -/
def R.on {α β : Type} (r : R α) (f : α → S → R β) : R β := match r with
  | .stuck => .stuck | .ok a s => f a s | .exc c s => .exc c s
theorem on_ok {α β : Type} (a : α) (s : S) (f : α → S → R β) : (R.ok a s).on f = f a s := rfl
theorem on_exc {α β : Type} (c : Str) (s : S) (f : α → S → R β) : (R.exc c s : R α).on f = .exc c s := rfl
theorem on_stuck {α β : Type} (f : α → S → R β) : (R.stuck : R α).on f = .stuck := rfl
theorem bind_on {α β : Type} (m : M α) (f : α → M β) (s : S) : (m >>= f) s = (m s).on fun a s' => f a s' := by
  rw [bind_run]
  cases m s <;> rfl
section
variable {f g : D → D → M D} {h : D → M D} {fl : List D → M D} {ma mb mc : Env → M D} {ta tb : Env → M Bool} {mr : Env → M (List D)} {env : Env} {s : S} {m n : Env → M Out} {i j : Nat}
theorem binM_run : binM f ma mb env s = (ma env s).on fun x s1 => (mb env s1).on fun y s2 => f x y s2 := by
  show (ma env >>= _) s = _
  rw [bind_on]
  congr 1
theorem unM_run : unM h ma env s = (ma env s).on fun x s1 => h x s1 := bind_on _ _ _
def bB (d : D) (s : S) : R Bool := match d with
  | .bl b => .ok b s
  | _ => .stuck
theorem bB_bl (b : Bool) : bB (.bl b) s = .ok b s := rfl
theorem tB_run : tB ma env s = (ma env s).on bB := by
  show (ma env >>= _) s = _
  rw [bind_on]
  congr 1
  funext d s1
  cases d <;> rfl
def chK (g : D → D → M D) (mc : Env → M D) (env : Env) (y : D) (r : D) (s : S) : R D := match r with
  | .bl true => (mc env s).on fun z s4 => g y z s4
  | .bl false => .ok (.bl false) s
  | _ => .stuck
theorem chK_t (y : D) : chK g mc env y (.bl true) s = (mc env s).on fun z s4 => g y z s4 := rfl
theorem chK_f (y : D) : chK g mc env y (.bl false) s = .ok (.bl false) s := rfl
theorem chainM_run : chainM f g ma mb mc env s = (ma env s).on fun x s1 => (mb env s1).on fun y s2 => (f x y s2).on fun r s3 => chK g mc env y r s3 := by
  show (ma env >>= _) s = _
  rw [bind_on]
  congr 1
  funext x s1
  rw [bind_on]
  congr 1
  funext y s2
  rw [bind_on]
  congr 1
  funext r s3
  cases r with
  | bl b =>
    cases b with
    | true => exact bind_on _ _ _
    | false => rfl
  | _ => rfl
theorem truM_run : truM ma env s = (ma env s).on fun d s1 => truD d s1 := bind_on _ _ _
theorem andM_run : andM ma mb env s = (ma env s).on fun x s1 => (truD x s1).on fun k s2 => if k = true then mb env s2 else .ok x s2 := by
  show (ma env >>= _) s = _
  rw [bind_on]
  congr 1
  funext x s1
  rw [bind_on]
  congr 1
  funext k s2
  cases k <;> rfl
theorem orM_run : orM ma mb env s = (ma env s).on fun x s1 => (truD x s1).on fun k s2 => if k = true then .ok x s2 else mb env s2 := by
  show (ma env >>= _) s = _
  rw [bind_on]
  congr 1
  funext x s1
  rw [bind_on]
  congr 1
  funext k s2
  cases k <;> rfl
theorem notM_run : notM ma env s = (ma env s).on fun x s1 => (truD x s1).on fun k s2 => .ok (.bl (!k)) s2 := by
  show (ma env >>= _) s = _
  rw [bind_on]
  congr 1
theorem andT_run : andT ta tb env s = (ta env s).on fun k s2 => if k = true then tb env s2 else .ok false s2 := by
  show (ta env >>= _) s = _
  rw [bind_on]
  congr 1
  funext k s2
  cases k <;> rfl
theorem orT_run : orT ta tb env s = (ta env s).on fun k s2 => if k = true then .ok true s2 else tb env s2 := by
  show (ta env >>= _) s = _
  rw [bind_on]
  congr 1
  funext k s2
  cases k <;> rfl
theorem notT_run : notT ta env s = (ta env s).on fun k s2 => .ok (!k) s2 := bind_on _ _ _
theorem ifM_run : ifM ta ma mb env s = (ta env s).on fun k s2 => if k = true then ma env s2 else mb env s2 := by
  show (ta env >>= _) s = _
  rw [bind_on]
  congr 1
  funext k s2
  cases k <;> rfl
theorem nilA_run : nilA env s = .ok [] s := rfl
theorem consA_run : consA ma mr env s = (ma env s).on fun d s1 => (mr env s1).on fun ds s2 => .ok (d :: ds) s2 := by
  show (ma env >>= _) s = _
  rw [bind_on]
  congr 1
def tupK (ds : List D) (s : S) : R D := if ds.length ≤ 100000 then .ok (.tup ds) s else .stuck
def lstK (ds : List D) (s : S) : R D := if ds.length ≤ 100000 then .ok (.ptr s.length) (s ++ [.lst ds]) else .stuck
theorem tupM_run : tupM mr env s = (mr env s).on tupK := by
  show (mr env >>= _) s = _
  rw [bind_on]
  congr 1
  funext ds s1
  unfold tupK
  by_cases h : ds.length ≤ 100000
  · rw [if_pos h, if_pos h]
    rfl
  · rw [if_neg h, if_neg h]
    rfl
theorem lstM_run : lstM mr env s = (mr env s).on lstK := by
  show (mr env >>= _) s = _
  rw [bind_on]
  congr 1
  funext ds s1
  unfold lstK
  by_cases h : ds.length ≤ 100000
  · rw [if_pos h, if_pos h]
    rfl
  · rw [if_neg h, if_neg h]
    rfl
theorem tupK_1 (a : D) : tupK [a] s = .ok (.tup [a]) s := rfl
theorem tupK_2 (a b : D) : tupK [a, b] s = .ok (.tup [a, b]) s := rfl
theorem tupK_3 (a b c : D) : tupK [a, b, c] s = .ok (.tup [a, b, c]) s := rfl
theorem tupK_4 (a b c d : D) : tupK [a, b, c, d] s = .ok (.tup [a, b, c, d]) s := rfl
theorem tupK_le {ds : List D} (h : ds.length ≤ 100000) : tupK ds s = .ok (.tup ds) s := if_pos h
theorem lstK_le {ds : List D} (h : ds.length ≤ 100000) : lstK ds s = .ok (.ptr s.length) (s ++ [.lst ds]) := if_pos h
theorem callM_run : callM fl mr env s = (mr env s).on fun ds s1 => fl ds s1 := bind_on _ _ _
theorem cM_run (d : D) : cM d env s = .ok d s := rfl
def varK (o : Option (Option D)) (s : S) : R D := match o with
  | some (some d) => .ok d s
  | _ => .stuck
theorem varK_ok (d : D) : varK (some (some d)) s = .ok d s := rfl
theorem varM_run : varM i env s = varK env[i]? s := by
  unfold varM
  cases e : env[i]? with
  | none => rfl
  | some o =>
    cases o with
    | none => rfl
    | some d => rfl
theorem yesT_run : yesT env s = .ok true s := rfl

/-! ### operators -/
theorem addD_int (a b : Int) : addD (.int a) (.int b) s = .ok (.int (a + b)) s := rfl
theorem subD_int (a b : Int) : subD (.int a) (.int b) s = .ok (.int (a - b)) s := rfl
theorem mulD_int {a b : Int} (h : MulOk a b) : mulD (.int a) (.int b) s = .ok (.int (a * b)) s := by
  show (if MulOk a b then (Pure.pure (D.int (a * b)) : M D) else stuck) s = _
  rw [if_pos h]
  rfl
theorem modD_pos {a b : Int} (h : 0 < b) : modD (.int a) (.int b) s = .ok (.int (a % b)) s := by
  show (if b = 0 then (stuck : M D) else Pure.pure (.int (if 0 < b then a % b else a.fmod b))) s = _
  rw [if_neg (by omega), if_pos h]
  rfl
theorem fdivD_pos {a b : Int} (h : 0 < b) (k : Bt 9000 b) : fdivD (.int a) (.int b) s = .ok (.int (a / b)) s := by
  show (if DivOk b then (if b = 0 then (stuck : M D) else Pure.pure (.int (if 0 < b then a / b else a.fdiv b))) else stuck) s = _
  rw [if_pos ⟨k⟩, if_neg (by omega), if_pos h]
  rfl
theorem fdivD_dvd {a b : Int} (h : b ≠ 0) (k : Bt 9000 b) (d : b ∣ a) : fdivD (.int a) (.int b) s = .ok (.int (a / b)) s := by
  show (if DivOk b then (if b = 0 then (stuck : M D) else Pure.pure (.int (if 0 < b then a / b else a.fdiv b))) else stuck) s = _
  rw [if_pos ⟨k⟩, if_neg h, Int.fdiv_eq_ediv_of_dvd d]
  split <;> rfl
theorem powD_ok {a b : Int} (h : (0 ≤ b ∧ b ≤ 1000) ∧ (-18446744073709551616 < a ∧ a < 18446744073709551616)) : powD (.int a) (.int b) s = .ok (.int (a ^ b.toNat)) s := by
  show (if PowOk a b then (Pure.pure (D.int (a ^ b.toNat)) : M D) else stuck) s = _
  rw [if_pos ⟨h⟩]
  rfl
theorem negD_int (a : Int) : negD (.int a) s = .ok (.int (-a)) s := rfl
theorem ltD_int (a b : Int) : ltD (.int a) (.int b) s = .ok (.bl (decide (a < b))) s := rfl
theorem leD_int (a b : Int) : leD (.int a) (.int b) s = .ok (.bl (decide (a ≤ b))) s := rfl
theorem gtD_int (a b : Int) : gtD (.int a) (.int b) s = .ok (.bl (decide (b < a))) s := rfl
theorem geD_int (a b : Int) : geD (.int a) (.int b) s = .ok (.bl (decide (b ≤ a))) s := rfl
theorem eqD_int (a b : Int) : eqD (.int a) (.int b) s = .ok (.bl (decide (a = b))) s := rfl
theorem eqD_bl (a b : Bool) : eqD (.bl a) (.bl b) s = .ok (.bl (decide (a = b))) s := rfl
theorem eqD_str (a b : Str) : eqD (.str a) (.str b) s = .ok (.bl (decide (a = b))) s := rfl
theorem neD_run (x y : D) : neD x y s = (eqD x y s).on fun d s1 => match d with
  | .bl b => .ok (.bl (!b)) s1
  | _ => .stuck := by
  show (eqD x y >>= _) s = _
  rw [bind_on]
  congr 1
  funext d s1
  cases d <;> rfl
theorem neD_int (a b : Int) : neD (.int a) (.int b) s = .ok (.bl (!decide (a = b))) s := rfl
theorem neD_bl (a b : Bool) : neD (.bl a) (.bl b) s = .ok (.bl (!decide (a = b))) s := rfl
theorem isnD_non : isnD .non s = .ok (.bl true) s := rfl
theorem isnD_int (a : Int) : isnD (.int a) s = .ok (.bl false) s := rfl
theorem isnD_bl (a : Bool) : isnD (.bl a) s = .ok (.bl false) s := rfl
theorem isnD_str (a : Str) : isnD (.str a) s = .ok (.bl false) s := rfl
theorem isnD_tup (a : List D) : isnD (.tup a) s = .ok (.bl false) s := rfl
theorem isnD_ptr (a : Nat) : isnD (.ptr a) s = .ok (.bl false) s := rfl
theorem isbD_bl (a b : Bool) : isbD (.bl a) (.bl b) s = .ok (.bl (decide (a = b))) s := rfl
theorem notbD_bl (a b : Bool) : notbD (.bl a) (.bl b) s = .ok (.bl (!decide (a = b))) s := rfl
theorem truD_bl (b : Bool) : truD (.bl b) s = .ok b s := rfl
theorem truD_int (b : Int) : truD (.int b) s = .ok (b != 0) s := rfl
theorem and_bl (k c : Bool) : (if k = true then (R.ok (D.bl c) s : R D) else R.ok (D.bl k) s) = R.ok (D.bl (k && c)) s := by cases k <;> rfl
theorem or_bl (k c : Bool) : (if k = true then (R.ok (D.bl k) s : R D) else R.ok (D.bl c) s) = R.ok (D.bl (k || c)) s := by cases k <;> rfl
theorem and_tt (k c : Bool) : (if k = true then (R.ok c s : R Bool) else R.ok false s) = R.ok (k && c) s := by cases k <;> rfl
theorem or_tt (k c : Bool) : (if k = true then (R.ok true s : R Bool) else R.ok c s) = R.ok (k || c) s := by cases k <;> rfl
theorem fun1_run (d : D) : fun1 h [d] s = h d s := rfl
theorem fun2_run (d e : D) : fun2 f [d, e] s = f d e s := rfl
theorem intD_int (a : Int) : intD (.int a) s = .ok (.int a) s := rfl
theorem intD_bl (a : Bool) : intD (.bl a) s = .ok (.int (if a then 1 else 0)) s := rfl
theorem absD_int (a : Int) : absD (.int a) s = .ok (.int (if a < 0 then -a else a)) s := rfl
theorem gcdD_int (a b : Int) : gcdD (.int a) (.int b) s = .ok (.int ((Nat.gcd a.natAbs b.natAbs : Nat) : Int)) s := rfl
theorem lenD_tup (ds : List D) : lenD (.tup ds) s = .ok (.int (ds.length : Int)) s := rfl
def atK (o : Option D) (s : S) : R D := match o with
  | some d => .ok d s
  | none => .stuck
theorem atK_some (d : D) : atK (some d) s = .ok d s := rfl
theorem ixS_int (ds : List D) (a : Int) : ixS ds (.int a) s = atK (atI ds a) s := by
  show (match atI ds a with
    | some d => (Pure.pure d : M D)
    | none => stuck) s = _
  cases atI ds a <;> rfl
theorem ixD_tup (ds : List D) (y : D) : ixD (.tup ds) y s = ixS ds y s := rfl
theorem ixD_flst (ds : List D) (y : D) : ixD (.flst ds) y s = ixS ds y s := rfl
theorem ixD_lst {k : Nat} {ds : List D} (e : s[k]? = some (.lst ds)) (y : D) : ixD (.ptr k) y s = ixS ds y s := by
  show (match s[k]? with
    | some (.lst ds) => ixS ds y s
    | some (.dK kvs) => ixK kvs y s
    | some (.fK kvs) => ixK kvs y s
    | _ => .stuck) = _
  rw [e]
theorem atI_nat {ds : List D} {k : Nat} {d : D} (e : ds[k]? = some d) : atI ds (k : Int) = some d := L2.atI_nat e
theorem at0 (a : D) (ds : List D) : atI (a :: ds) 0 = some a := L2.atI_nat (j := 0) rfl
theorem at1 (a b : D) (ds : List D) : atI (a :: b :: ds) 1 = some b := L2.atI_nat (j := 1) rfl
theorem at2 (a b c : D) (ds : List D) : atI (a :: b :: c :: ds) 2 = some c := L2.atI_nat (j := 2) rfl
theorem at3 (a b c d : D) (ds : List D) : atI (a :: b :: c :: d :: ds) 3 = some d := L2.atI_nat (j := 3) rfl
theorem lenD_lst {k : Nat} {ds : List D} (e : s[k]? = some (.lst ds)) : lenD (.ptr k) s = .ok (.int (ds.length : Int)) s := by
  show (match s[k]? with
    | some (.lst ds) => R.ok (D.int ds.length) s
    | some (.dK kvs) => .ok (.int kvs.length) s
    | _ => .stuck) = _
  rw [e]

/-! ### statements -/
theorem fnM_run (N : Nat) (ds : List D) : fnM N m ds s = (m (startE N ds) s).on fun o s1 => outM o s1 := bind_on _ _ _
theorem outM_rt (d : D) : outM (.rt d) s = .ok d s := rfl
theorem outM_nx (e : Env) : outM (.nx e) s = .ok .non s := rfl
theorem lenM_run {k : Nat} {ds : List D} (e : ds.length = k) : lenM k fl ds s = fl ds s := by
  show (if ds.length = k then fl ds else stuck) s = _
  rw [if_pos e]
theorem lenM0 : lenM 0 fl [] s = fl [] s := rfl
theorem lenM1 (a : D) : lenM 1 fl [a] s = fl [a] s := rfl
theorem lenM2 (a b : D) : lenM 2 fl [a, b] s = fl [a, b] s := rfl
theorem lenM3 (a b c : D) : lenM 3 fl [a, b, c] s = fl [a, b, c] s := rfl
theorem lenM4 (a b c d : D) : lenM 4 fl [a, b, c, d] s = fl [a, b, c, d] s := rfl
theorem lenM5 (a b c d e : D) : lenM 5 fl [a, b, c, d, e] s = fl [a, b, c, d, e] s := rfl
def seqK (n : Env → M Out) (o : Out) (s : S) : R Out := match o with
  | .nx env' => n env' s
  | .rt d => .ok (.rt d) s
  | .bk e => .ok (.bk e) s
  | .ct e => .ok (.ct e) s
theorem seqK_nx (e : Env) : seqK n (.nx e) s = n e s := rfl
theorem seqK_rt (d : D) : seqK n (.rt d) s = .ok (.rt d) s := rfl
theorem seqK_bk (e : Env) : seqK n (.bk e) s = .ok (.bk e) s := rfl
theorem seqK_ct (e : Env) : seqK n (.ct e) s = .ok (.ct e) s := rfl
theorem seqS_run : seqS m n env s = (m env s).on (seqK n) := by
  show (m env >>= _) s = _
  rw [bind_on]
  congr 1
  funext o s1
  cases o <;> rfl
theorem setS_run : setS i ma env s = (ma env s).on fun d s1 => .ok (.nx (env.set i (some d))) s1 := bind_on _ _ _
theorem dropS_run : dropS ma env s = (ma env s).on fun _ s1 => .ok (.nx env) s1 := bind_on _ _ _
theorem retS_run : retS ma env s = (ma env s).on fun d s1 => .ok (.rt d) s1 := bind_on _ _ _
theorem nxS_run : nxS env s = .ok (.nx env) s := rfl
theorem ifS_run : ifS ta m n env s = (ta env s).on fun k s1 => if k = true then m env s1 else n env s1 := by
  show (ta env >>= _) s = _
  rw [bind_on]
  congr 1
  funext k s1
  cases k <;> rfl
theorem asgS_run (gg : D → Env → M Env) : asgS ma gg env s = (ma env s).on fun d s1 => (gg d env s1).on fun e s2 => .ok (.nx e) s2 := by
  show (ma env >>= _) s = _
  rw [bind_on]
  congr 1
theorem gNm_run (d : D) : gNm i d env s = .ok (env.set i (some d)) s := rfl
theorem gNilM_run : gNilM [] env s = .ok env s := rfl
theorem gConsM_run (g1 : D → Env → M Env) (gs : List D → Env → M Env) (d : D) (r : List D) : gConsM g1 gs (d :: r) env s = (g1 d env s).on fun e s1 => gs r e s1 := bind_on _ _ _
theorem gTupM_run {k : Nat} (gs : List D → Env → M Env) {ds : List D} (e : ds.length = k) : gTupM k gs (.tup ds) env s = gs ds env s := by
  show (if ds.length = k then gs ds env else stuck) s = _
  rw [if_pos e]
theorem gTup2 (gs : List D → Env → M Env) (a b : D) : gTupM 2 gs (.tup [a, b]) env s = gs [a, b] env s := rfl
theorem gTup3 (gs : List D → Env → M Env) (a b c : D) : gTupM 3 gs (.tup [a, b, c]) env s = gs [a, b, c] env s := rfl
theorem gSubM_run (mo mi : Env → M D) (ff : D → D → D → M Unit) (v : D) : gSubM mo mi ff v env s = (mo env s).on fun o s1 => (mi env s1).on fun x s2 => (ff o x v s2).on fun _ s3 => .ok env s3 := by
  show (mo env >>= _) s = _
  rw [bind_on]
  congr 1
theorem setLD_nat {k j : Nat} {ds : List D} (e : s[k]? = some (.lst ds)) (h : j < ds.length) (v : D) : setLD (.ptr k) (.int (j : Int)) v s = .ok () (s.set k (.lst (ds.set j v))) := by
  show (match s[k]? with
    | some (.lst ds) => putL ds (.int (j : Int)) v k s
    | _ => .stuck) = _
  rw [e]
  show (match ixN ds.length (j : Int) with
    | some j => (fun (s : S) => R.ok () (s.set k (.lst (ds.set j v))))
    | none => (stuck : M Unit)) s = _
  have e1 : ixN ds.length (j : Int) = some j := by
    unfold ixN
    rw [if_pos (by omega), if_pos (by omega)]
    simp
  rw [e1]
theorem parS_run : parS i j ma mb env s = (ma env s).on fun a s1 => (mb env s1).on fun b s2 => .ok (.nx ((env.set i (some a)).set j (some b))) s2 := by
  show (ma env >>= _) s = _
  rw [bind_on]
  congr 1
theorem forS_run (mi : Env → M Src) (gg : D → Env → M Env) : forS mi gg m env s = (mi env s).on fun r s1 => loopM r gg m r.items env s1 := bind_on _ _ _
theorem srcM_run : srcM ma env s = (ma env s).on fun d s1 => srcD d s1 := bind_on _ _ _
theorem srcA_run (fs : List D → M Src) : srcA fs mr env s = (mr env s).on fun d s1 => fs d s1 := bind_on _ _ _
theorem srcD_str (x : Str) : srcD (.str x) s = .ok ⟨signsOf x, none⟩ s := rfl
theorem srcD_tup (ds : List D) : srcD (.tup ds) s = .ok ⟨ds, none⟩ s := rfl
theorem srcD_flst (ds : List D) : srcD (.flst ds) s = .ok ⟨ds, none⟩ s := rfl
theorem srcD_lst {k : Nat} {ds : List D} (e : s[k]? = some (.lst ds)) : srcD (.ptr k) s = .ok ⟨ds, some (k, ds)⟩ s := by
  show (match s[k]? with
    | some (.lst ds) => R.ok (⟨ds, some (k, ds)⟩ : Src) s
    | _ => .stuck) = _
  rw [e]
theorem rng1_run {a : Int} (h : -4000000000 ≤ a ∧ a ≤ 4000000000) : rng1D [.int a] s = .ok ⟨rngItems 0 a.toNat, none⟩ s := by
  show (if -4000000000 ≤ a ∧ a ≤ 4000000000 then (Pure.pure (⟨rngItems 0 a.toNat, none⟩ : Src) : M Src) else stuck) s = _
  rw [if_pos h]
  rfl
theorem guard_none (ds : List D) : guardM ⟨ds, none⟩ s = .ok () s := if_pos (show True from trivial)
theorem guard_pos {r : Src} {s : S} (h : r.Ok s) : guardM r s = .ok () s := if_pos h
noncomputable def lpK (r : Src) (gg : D → Env → M Env) (b : Env → M Out) (ds : List D) (o : Out) (s : S) : R Out := match o with
  | .nx e => loopM r gg b ds e s
  | .ct e => loopM r gg b ds e s
  | .bk e => .ok (.nx e) s
  | .rt d => .ok (.rt d) s
theorem loop_nil (r : Src) (gg : D → Env → M Env) : loopM r gg m [] env s = (guardM r s).on fun _ s1 => .ok (.nx env) s1 := bind_on _ _ _
theorem loop_cons (r : Src) (gg : D → Env → M Env) (d : D) (ds : List D) : loopM r gg m (d :: ds) env s = (guardM r s).on fun _ s1 => (gg d env s1).on fun e s2 => (m e s2).on (lpK r gg m ds) := by
  show (guardM r >>= _) s = _
  rw [bind_on]
  congr 1
  funext u s1
  rw [bind_on]
  congr 1
  funext e s2
  rw [bind_on]
  congr 1
  funext o s3
  cases o <;> rfl
/-- a loop by a word that every turn keeps -/
theorem loop_all {r : Src} {gg : D → Env → M Env} {b : Env → M Out} (I : Nat → Env → S → Prop) (ok : ∀ i env s, I i env s → r.Ok s)
    (turn : ∀ i d env s, r.items[i]? = some d → I i env s → ∃ env' s', ((gg d env s).on fun e s2 => b e s2) = .ok (.nx env') s' ∧ I (i + 1) env' s') :
    ∀ (ds : List D) (i : Nat) (env : Env) (s : S), r.items.drop i = ds → i ≤ r.items.length → I i env s → ∃ env' s', loopM r gg b ds env s = .ok (.nx env') s' ∧ I r.items.length env' s'
  | [], i, env, s, hd, hi, h => by
    have e : r.items.length ≤ i := List.drop_eq_nil_iff.mp hd
    have e2 : i = r.items.length := by omega
    subst e2
    exact ⟨env, s, by rw [loop_nil, guard_pos (ok _ _ _ h)]; rfl, h⟩
  | d :: ds, i, env, s, hd, hi, h => by
    have hl : i < r.items.length := by
      have := congrArg List.length hd
      rw [List.length_drop, List.length_cons] at this
      omega
    have h1 : r.items[i]? = some d := by
      have := congrArg (fun l => l[0]?) hd
      simpa [List.getElem?_drop] using this
    have h2 : r.items.drop (i + 1) = ds := by
      have := congrArg List.tail hd
      rw [List.tail_drop] at this
      exact this
    obtain ⟨env', s', e1, h'⟩ := turn i d env s h1 h
    obtain ⟨env2, s2, e2, h3⟩ := loop_all I ok turn ds (i + 1) env' s' h2 hl h'
    refine ⟨env2, s2, ?_, h3⟩
    rw [loop_cons, guard_pos (ok _ _ _ h), on_ok]
    cases eg : gg d env s with
    | stuck => rw [eg] at e1; cases e1
    | exc c s1 => rw [eg] at e1; cases e1
    | ok e s1 =>
      rw [eg, on_ok] at e1
      rw [on_ok, e1, on_ok]
      exact e2
end
theorem rng_at {lo : Int} {n i : Nat} {d : D} (h : (rngItems lo n)[i]? = some d) : i < n ∧ d = .int (lo + (i : Int)) := by
  unfold rngItems at h
  rw [List.getElem?_map] at h
  by_cases hi : i < n
  · rw [List.getElem?_range hi] at h
    cases h
    exact ⟨hi, rfl⟩
  · rw [List.getElem?_eq_none (by rw [List.length_range]; omega)] at h
    cases h
theorem rng_len (lo : Int) (n : Nat) : (rngItems lo n).length = n := by
  unfold rngItems
  rw [List.length_map, List.length_range]
end PL

/-! PL8: sorted(dict(xs)) of a list of pairs (pair of integers, thing). -/
namespace PL
open PySem PySem.Spec PyProof.Rows L2

section
variable {prog : Program} {w : World} {A : Around} {E : Value → Shared → Prop}
abbrev KH := List L2.Key × Addr × Value
def mergedH (acc : List KH) : List KH → List KH
  | [] => acc
  | q :: r => mergedH (storedH acc q.1 q.2.1 q.2.2) r
theorem storedH_le (acc : List KH) (k : List L2.Key) (a : Addr) (v : Value) : (storedH acc k a v).length ≤ acc.length + 1 := by
  unfold storedH
  split
  · rw [List.length_map]
    exact Nat.le_succ _
  · rw [List.length_append]
    exact Nat.le_refl _
theorem mergedH_le : ∀ (r acc : List KH), (mergedH acc r).length ≤ acc.length + r.length
  | [], acc => Nat.le_refl _
  | q :: r, acc => by
    have h := mergedH_le r (storedH acc q.1 q.2.1 q.2.2)
    have h2 := storedH_le acc q.1 q.2.1 q.2.2
    show (mergedH (storedH acc q.1 q.2.1 q.2.2) r).length ≤ acc.length + (r.length + 1)
    omega
theorem dh_move {h h' : Heap} {d : Addr} {xs : List KH} (hm : h.DictOfH (tupleKind (mixKind prog w)) d xs) (k : ∀ b o, h.get? b = some o → (b = d ∨ o.cls = .type "tuple") → h'.get? b = some o) : h'.DictOfH (tupleKind (mixKind prog w)) d xs := by
  obtain ⟨o, es, ep, ho, hx, hd, he, hk, hn⟩ := hm
  refine ⟨o, es, ep, k d o ho (.inl rfl), hx, hd, he, fun x hx => ?_, hn⟩
  obtain ⟨o2, items, n, h1, h2, h3, h4⟩ := hk x hx
  exact ⟨o2, items, n, k _ _ h1 (.inr h2), h2, h3, h4⟩
theorem ne_iter {h : Heap} {I l : Addr} {i : Nat} (hit : h.IsListIter I l i) {b : Addr} {o : Obj} (hb : h.get? b = some o) (hc : o.cls = .type "tuple") : b ≠ I := fun e => by
  subst e
  obtain ⟨o', h1, h2, _⟩ := hit
  rw [hb] at h1
  cases h1
  rw [hc] at h2
  exact absurd (Value.type.inj h2) (by decide)
/-- the walk over the pairs, keys being tuples -/
theorem updH_loop {R : Result → Shared → Prop} {S I l : Addr} {items : Array Value} {res : Value} (hu : A.units + 2 < cLine) (hh : A.handled = none) (hlI : l ≠ I) (hSI : S ≠ I) (hSl : S ≠ l) :
    ∀ (rest : List KH) (i : Nat) (acc : List KH) (ix : Int) (t : Tok) (s : Shared), items.size = i + rest.length → acc.length + rest.length ≤ sizeLine →
      (∀ (j : Nat) (q : KH), rest[j]? = some q → ∃ (b : Addr), items[i + j]? = some (.ref b) ∧ b ≠ S ∧ IsTup s.heap b #[.ref q.2.1, q.2.2] ∧ IsTupleKey (mixKind prog w) s.heap q.1 q.2.1 ∧ q.2.1 ≠ S) →
      s.heap.IsListIter I l i → s.heap.IsList l items → s.heap.DictOfH (tupleKind (mixKind prog w)) S acc →
      (∀ h' tk, h'.DictOfH (tupleKind (mixKind prog w)) S (mergedH acc rest) → (∀ b o, b ≠ S → b ≠ I → s.heap.get? b = some o → h'.get? b = some o) → R (.ok (.ret res)) { s with heap := h', toks := tk }) →
      codeAny (model prog w) A (.builtin "dict.update.loop" ⟨[.ref S, .ref I, .int ix t, res], []⟩) R s
  | [], i, acc, ix, t, s, hsz, hln, ht, hit, hl, hm, hR => by
    refine codeAny_builtin ud_entry ?_
    rw [Around.under_plainId ud_plain _]
    show wpAny _ A.in1 (pyNext (.ref I) >>= _) _ _ s
    refine wpAny_bind (wpAny_pyNext_list_end (A := A.in1) hh hit hl (by first | exact Array.getElem?_eq_none (Nat.le_of_eq hsz) | (simp at hsz; simp; omega)) fun h' he => ?_)
    show wpAny _ A.in1 (Builtin.Dict.addKeywords S [] >>= _) _ _ _
    refine wpAny_bind (wpAny_pure (wpAny_pure ?_))
    refine hR h' s.toks (dh_move hm fun b o e c => he b o ?_ e) fun b o _ hb e => he b o hb e
    rcases c with c | c
    · rw [c]
      exact hSI
    · exact ne_iter hit e c
  | q :: rest, i, acc, ix, t, s, hsz, hln, ht, hit, hl, hm, hR => by
    obtain ⟨b, hb, hbS, htup, hk, hkS⟩ := ht 0 q rfl
    rw [List.length_cons] at hsz hln
    refine codeAny_builtin ud_entry ?_
    rw [Around.under_plainId ud_plain _]
    show wpAny _ A.in1 (pyNext (.ref I) >>= _) _ _ s
    refine wpAny_bind (wpAny_pyNext_list_item (x := .ref b) hit hl (by simpa using hb) fun h1 hit1 hs1 => ?_)
    have up1 : ∀ b o, s.heap.get? b = some o → o.cls = .type "tuple" → h1.get? b = some o := fun b o e c => hs1.extBut b o (ne_iter hit e c) e
    have ht1 : IsTup h1 b #[.ref q.2.1, q.2.2] := by
      obtain ⟨o, ho, hc, r⟩ := htup
      exact ⟨o, up1 b o ho hc, hc, r⟩
    have hk1 : IsTupleKey (mixKind prog w) h1 q.1 q.2.1 := by
      obtain ⟨o, its, n, ho, hc, r⟩ := hk
      exact ⟨o, its, n, up1 _ o ho hc, hc, r⟩
    have hl1 : h1.IsList l items := hl.extBut hs1.extBut hlI
    have hm1 : h1.DictOfH (tupleKind (mixKind prog w)) S acc := dh_move hm fun b o e c => by
      rcases c with c | c
      · exact hs1.extBut b o (by rw [c]; exact hSI) e
      · exact up1 b o e c
    obtain ⟨o, ho, hc, n, hd⟩ := id ht1
    show wpAny _ A.in1 (holding [Value.ref b] _ >>= _) _ _ _
    refine wpAny_bind (wpAny_holding ?_)
    refine wpAny_bind (wpAny_tryCatch ?_)
    unfold Builtin.Dict.pairItems
    refine wpAny_bind (wpAny_typeOf (T := "tuple") ⟨o, ho, hc⟩ ?_)
    rw [if_pos (by first | decide | rfl | simp)]
    refine wpAny_bind (wpAny_seqItems ho hd (wpAny_pure ?_))
    show wpAny _ A.in1 (holding [.ref q.2.1, q.2.2] (dictSet S (.ref q.2.1) q.2.2)) _ _ _
    refine wpAny_holding (wpAny_dictSet_heap (knd := tupleKind (mixKind prog w)) (k := q.1) (hsz := by omega) (show (tupleKind (mixKind prog w)).room A.in1 from tupleKind_room_in1 (by omega)) hk1 hm1 fun h2 hm2 hs2 => ?_)
    refine wpAny_pure ⟨plainId_quiet ud_plain _, updH_loop (items := items) hu hh hlI hSI hSl rest (i + 1) (storedH acc q.1 q.2.1 q.2.2) (ix + 1) 0 _ (show items.size = i + 1 + rest.length by omega) ?_ (fun j q' e => ?_) ?_ ?_ hm2 fun h' tk hd' k => ?_⟩
    · have z := storedH_le acc q.1 q.2.1 q.2.2
      omega
    · obtain ⟨b', hb', hbS', htup', hk', hkS'⟩ := ht (j + 1) q' (by simpa using e)
      refine ⟨b', ?_, hbS', ?_, ?_, hkS'⟩
      · rw [show i + 1 + j = i + (j + 1) by omega]
        exact hb'
      · obtain ⟨o, ho, hc, r⟩ := htup'
        exact ⟨o, hs2.extBut _ _ hbS' (up1 _ _ ho hc), hc, r⟩
      · obtain ⟨o, its, n, ho, hc, r⟩ := hk'
        exact ⟨o, its, n, hs2.extBut _ _ hkS' (up1 _ _ ho hc), hc, r⟩
    · exact hit1.at fun o' e => hs2.extBut I o' (Ne.symm hSI) e
    · exact hl1.extBut hs2.extBut (Ne.symm hSl)
    · exact hR h' tk hd' fun c oc h3 h4 e => k c oc h3 h4 (hs2.extBut c oc h3 (hs1.extBut c oc h4 e))
/-- dict(l) of a list of pairs, the keys being tuples -/
theorem call_dict_tups {s : Shared} {l : Addr} {ol : Obj} {items : Array Value} {n : Nat} {prs : List KH} {Q : Value → Shared → Prop} (hu : A.units + 8 < cLine) (hh : A.handled = none) (hl : s.heap.get? l = some ol) (hc : ol.cls = .type "list") (hd : ol.dict = none)
    (hdat : ol.data = .seq items n) (hsz : items.size = prs.length) (hln : prs.length ≤ sizeLine)
    (ht : ∀ (j : Nat) (q : KH), prs[j]? = some q → ∃ (b : Addr), items[j]? = some (.ref b) ∧ IsTup s.heap b #[.ref q.2.1, q.2.2] ∧ IsTupleKey (mixKind prog w) s.heap q.1 q.2.1)
    (h : ∀ h' tk, h'.DictOfH (tupleKind (mixKind prog w)) s.heap.objs.size (mergedH [] prs) → (∀ b o, s.heap.get? b = some o → h'.get? b = some o) → Q (.ref s.heap.objs.size) { s with heap := h', toks := tk }) :
    wpAny (model prog w) A (call (.type "dict") [.ref l]) Q E s := by
  refine callType_codes (Q₁ := fun obj s₁ => obj = .ref s.heap.objs.size ∧ s₁ = { s with heap := s.heap.push { cls := .type "dict", data := .dict #[] } }) PySem.F.kt_called_dict (PySem.F.kt_typeCall_dict_1 _) PySem.F.entry_dict_init (kt_code_dict_new _ ⟨rfl, rfl⟩) ?_
  rintro obj s₁ ⟨rfl, rfl⟩
  have hnew : (s.heap.push { cls := .type "dict", data := .dict #[] }).DictOfH (tupleKind (mixKind prog w)) s.heap.objs.size [] := Heap.DictOfH.new s.heap
  have k0 : ∀ b o, s.heap.get? b = some o → (s.heap.push { cls := .type "dict", data := .dict #[] }).get? b = some o := fun b o e => Heap.get?_push_of_some _ e
  have hty : ({ s with heap := s.heap.push { cls := .type "dict", data := .dict #[] } } : Shared).TypeIs (.ref s.heap.objs.size) "dict" := Heap.DictOfH.typeIs (knd := tupleKind (mixKind prog w)) (s := { s with heap := s.heap.push { cls := .type "dict", data := .dict #[] } }) hnew
  refine ⟨hty, PySem.F.args_dict_init_2 _ _, ?_⟩
  unfold Builtin.«dict.__init__»
  refine wpAny_bind ?_
  unfold Builtin.Dict.selfAndRest
  refine wpAny_bind (wpAny_notOrdered_dict hty ?_)
  show wpAny _ _ (pure (s.heap.objs.size, [Value.ref l])) _ _ _
  refine wpAny_pure ?_
  show wpAny _ _ (Builtin.Dict.updateFrom "dict.__init__" s.heap.objs.size (.ref l) [] .none) _ _ _
  unfold Builtin.Dict.updateFrom
  refine wpAny_bind (wpAny_typeOf (T := "list") ⟨ol, k0 _ _ hl, hc⟩ ?_)
  rw [if_pos (by first | decide | rfl | simp)]
  refine wpAny_bind (miss_list (k0 _ _ hl) hc hdat hd hh fun h1 tk1 hk1 => ?_)
  rw [if_pos (show (none : Option Value).isNone = true from rfl)]
  refine wpAny_bind (wpAny_rule ?_)
  have hl1 : h1.IsList l items := ⟨ol, hk1 _ _ (k0 _ _ hl), hc, n, hdat⟩
  have hS1 : s.heap.objs.size < h1.objs.size := by
    have e : (s.heap.push { cls := .type "dict", data := .dict #[] }).get? s.heap.objs.size = some { cls := .type "dict", data := .dict #[] } := Heap.get?_push_size _ rfl
    exact Heap.lt_size (hk1 _ _ e)
  refine wpAny_bind (wpAny_pyIter_list hl1 ?_)
  have k2 : ∀ b o, h1.get? b = some o → (h1.push { cls := .type "list_iterator", data := .fields #[.ref l, .int 0 0] }).get? b = some o := fun b o e => Heap.get?_push_of_some _ e
  have hlt : l < s.heap.objs.size := Heap.lt_size hl
  have key := updH_loop (prog := prog) (w := w) (A := A.in1) (R := wants (fun r s₂ => r = .none ∧ Q (.ref s.heap.objs.size) s₂) E) (S := s.heap.objs.size) (I := h1.objs.size) (l := l) (items := items) (res := Value.none) (show A.units + 1 + 2 < cLine by omega) hh
    (Nat.ne_of_lt (Nat.lt_trans hlt hS1)) (Nat.ne_of_lt hS1) (Nat.ne_of_gt hlt) prs 0 [] 0 0
    { s with heap := h1.push { cls := .type "list_iterator", data := .fields #[.ref l, .int 0 0] }, toks := tk1 } (by rw [hsz, Nat.zero_add]) (by rw [List.length_nil, Nat.zero_add]; exact hln)
    (fun j q e => by
      obtain ⟨b, e1, e2, e3⟩ := ht j q e
      have hb : b < s.heap.objs.size := e2.lt
      obtain ⟨o, its, n3, ho, r⟩ := e3
      exact ⟨b, by rw [Nat.zero_add]; exact e1, Nat.ne_of_lt hb, e2.keeps fun c o z => k2 _ _ (hk1 _ _ (k0 _ _ z)), ⟨o, its, n3, k2 _ _ (hk1 _ _ (k0 _ _ ho)), r⟩, Nat.ne_of_lt (Heap.lt_size ho)⟩)
    ⟨_, Heap.get?_push_size _ rfl, rfl, rfl⟩ (hl1.at fun o e => k2 _ _ e) (dh_move hnew fun b o e _ => k2 _ _ (hk1 _ _ e))
    (fun h' tk hd' k => ⟨rfl, h h' tk hd' fun b o e => k b o (Nat.ne_of_lt (Heap.lt_size e)) (Nat.ne_of_lt (Nat.lt_trans (Heap.lt_size e) hS1)) (k2 _ _ (hk1 _ _ (k0 _ _ e)))⟩)
  first
    | exact wpAny_pure ⟨plainId_quiet ud_plain _, key⟩
    | exact wpAny_bind (wpAny_pure (wpAny_pure ⟨plainId_quiet ud_plain _, key⟩))
end
end PL

namespace PL
open PySem PySem.Spec PyProof.Rows L2
/-! ### sorted lists of distinct pairs -/
def insU (p : Int × Int) : List (Int × Int) → List (Int × Int)
  | [] => [p]
  | q :: r => if SrtO.lexB p q = true then p :: q :: r else if p = q then q :: r else q :: insU p r
def sortU : List (Int × Int) → List (Int × Int)
  | [] => []
  | p :: r => insU p (sortU r)
def Lx (p q : Int × Int) : Prop := SrtO.lexB p q = true
theorem Lx.iff {p q : Int × Int} : Lx p q ↔ p.1 < q.1 ∨ (p.1 = q.1 ∧ p.2 < q.2) := SrtO.lexB_iff
theorem insU_mem (p x : Int × Int) : ∀ l : List (Int × Int), x ∈ insU p l ↔ x = p ∨ x ∈ l
  | [] => by simp [insU]
  | q :: r => by
    unfold insU
    split
    · simp
    · split
      · rename_i e
        subst e
        simp
      · rw [List.mem_cons, insU_mem p x r, List.mem_cons]
        constructor
        · rintro (h | h | h)
          · exact .inr (.inl h)
          · exact .inl h
          · exact .inr (.inr h)
        · rintro (h | h | h)
          · exact .inr (.inl h)
          · exact .inl h
          · exact .inr (.inr h)
theorem Lx.trans {p q r : Int × Int} (h : Lx p q) (k : Lx q r) : Lx p r := by
  rw [Lx.iff] at *
  omega
theorem Lx.tri (p q : Int × Int) (h : ¬ Lx p q) (n : p ≠ q) : Lx q p := by
  rw [Lx.iff] at *
  have : ¬ (p.1 = q.1 ∧ p.2 = q.2) := fun z => n (Prod.ext z.1 z.2)
  omega
theorem Lx.irr (p : Int × Int) : ¬ Lx p p := by
  rw [Lx.iff]
  omega
theorem insU_sorted (p : Int × Int) : ∀ l : List (Int × Int), l.Pairwise Lx → (insU p l).Pairwise Lx
  | [], _ => List.pairwise_singleton _ _
  | q :: r, h => by
    obtain ⟨h1, h2⟩ := List.pairwise_cons.mp h
    unfold insU
    split
    · rename_i c
      refine List.pairwise_cons.mpr ⟨fun x hx => ?_, h⟩
      rcases List.mem_cons.mp hx with rfl | hx
      · exact c
      · exact Lx.trans c (h1 x hx)
    · split
      · exact h
      · rename_i c n
        refine List.pairwise_cons.mpr ⟨fun x hx => ?_, insU_sorted p r h2⟩
        rcases (insU_mem p x r).mp hx with rfl | hx
        · exact Lx.tri _ _ c n
        · exact h1 x hx
theorem sortU_sorted : ∀ l : List (Int × Int), (sortU l).Pairwise Lx
  | [] => .nil
  | p :: r => insU_sorted p _ (sortU_sorted r)
theorem sortU_mem (x : Int × Int) : ∀ l : List (Int × Int), x ∈ sortU l ↔ x ∈ l
  | [] => Iff.rfl
  | p :: r => by
    show x ∈ insU p (sortU r) ↔ _
    rw [insU_mem, sortU_mem x r, List.mem_cons]
theorem lx_uniq : ∀ {l m : List (Int × Int)}, l.Pairwise Lx → m.Pairwise Lx → (∀ x, x ∈ l ↔ x ∈ m) → l = m
  | [], [], _, _, _ => rfl
  | [], q :: m, _, _, h => absurd ((h q).mpr List.mem_cons_self) (by simp)
  | p :: l, [], _, _, h => absurd ((h p).mp List.mem_cons_self) (by simp)
  | p :: l, q :: m, hl, hm, h => by
    obtain ⟨l1, l2⟩ := List.pairwise_cons.mp hl
    obtain ⟨m1, m2⟩ := List.pairwise_cons.mp hm
    have e : p = q := by
      rcases List.mem_cons.mp ((h p).mp List.mem_cons_self) with e | hp
      · exact e
      · rcases List.mem_cons.mp ((h q).mpr List.mem_cons_self) with e | hq
        · exact e.symm
        · exact absurd (Lx.trans (l1 q hq) (m1 p hp)) (Lx.irr p)
    subst e
    have : l = m := lx_uniq l2 m2 fun x => by
      constructor
      · intro hx
        rcases List.mem_cons.mp ((h x).mp (List.mem_cons_of_mem _ hx)) with e | hy
        · subst e
          exact absurd (l1 x hx) (Lx.irr x)
        · exact hy
      · intro hx
        rcases List.mem_cons.mp ((h x).mpr (List.mem_cons_of_mem _ hx)) with e | hy
        · subst e
          exact absurd (m1 x hx) (Lx.irr x)
        · exact hy
    rw [this]
/-! ### what a merge of key tuples has -/
theorem putAt_1 (k : List L2.Key) (v : Value) (y : KH) : (putAt k v y).1 = y.1 ∧ (putAt k v y).2.1 = y.2.1 := by
  unfold putAt
  split <;> exact ⟨rfl, rfl⟩
theorem storedH_has {acc : List KH} {k : List L2.Key} {a : Addr} {v : Value} {x : KH} (h : x ∈ storedH acc k a v) : (∃ y ∈ acc, y.1 = x.1 ∧ y.2.1 = x.2.1) ∨ (x.1 = k ∧ x.2.1 = a) := by
  unfold storedH at h
  split at h
  · obtain ⟨y, hy, rfl⟩ := List.mem_map.mp h
    exact .inl ⟨y, hy, (putAt_1 k v y).1.symm, (putAt_1 k v y).2.symm⟩
  · rcases List.mem_append.mp h with h | h
    · exact .inl ⟨x, h, rfl, rfl⟩
    · rw [List.mem_singleton.mp h]
      exact .inr ⟨rfl, rfl⟩
theorem storedH_old {acc : List KH} {k : List L2.Key} {a : Addr} {v : Value} {y : KH} (h : y ∈ acc) : ∃ x ∈ storedH acc k a v, x.1 = y.1 := by
  unfold storedH
  split
  · exact ⟨_, List.mem_map.mpr ⟨y, h, rfl⟩, (putAt_1 k v y).1⟩
  · exact ⟨y, List.mem_append_left _ h, rfl⟩
theorem storedH_key {acc : List KH} {k : List L2.Key} {a : Addr} {v : Value} : ∃ x ∈ storedH acc k a v, x.1 = k := by
  unfold storedH
  split
  · rename_i h
    cases e : atKey acc k with
    | none => rw [e] at h; cases h
    | some p =>
      unfold atKey at e
      cases e2 : acc.find? fun x => decide (x.1 = k) with
      | none => rw [e2] at e; cases e
      | some y =>
        have h1 := List.mem_of_find?_eq_some e2
        have h2 := List.find?_some e2
        exact ⟨_, List.mem_map.mpr ⟨y, h1, rfl⟩, (putAt_1 k v y).1.trans (of_decide_eq_true h2)⟩
  · exact ⟨(k, a, v), List.mem_append_right _ (List.mem_singleton.mpr rfl), rfl⟩
theorem mergedH_has : ∀ (r acc : List KH) {x : KH}, x ∈ mergedH acc r → ∃ y, (y ∈ acc ∨ y ∈ r) ∧ y.1 = x.1 ∧ y.2.1 = x.2.1
  | [], acc, x, h => ⟨x, .inl h, rfl, rfl⟩
  | q :: r, acc, x, h => by
    obtain ⟨y, hy, e1, e2⟩ := mergedH_has r (storedH acc q.1 q.2.1 q.2.2) h
    rcases hy with hy | hy
    · rcases storedH_has hy with ⟨z, hz, e3, e4⟩ | ⟨e3, e4⟩
      · exact ⟨z, .inl hz, e3.trans e1, e4.trans e2⟩
      · exact ⟨q, .inr List.mem_cons_self, e3.symm.trans e1, e4.symm.trans e2⟩
    · exact ⟨y, .inr (List.mem_cons_of_mem _ hy), e1, e2⟩
theorem mergedH_old : ∀ (r acc : List KH) {y : KH}, y ∈ acc → ∃ x ∈ mergedH acc r, x.1 = y.1
  | [], acc, y, h => ⟨y, h, rfl⟩
  | q :: r, acc, y, h => by
    obtain ⟨z, hz, e⟩ := storedH_old (k := q.1) (a := q.2.1) (v := q.2.2) h
    obtain ⟨x, hx, e2⟩ := mergedH_old r _ hz
    exact ⟨x, hx, e2.trans e⟩
theorem mergedH_key : ∀ (r acc : List KH) {y : KH}, y ∈ r → ∃ x ∈ mergedH acc r, x.1 = y.1
  | q :: r, acc, y, h => by
    rcases List.mem_cons.mp h with e | h
    · subst e
      obtain ⟨z, hz, e⟩ := storedH_key (acc := acc) (k := y.1) (a := y.2.1) (v := y.2.2)
      obtain ⟨x, hx, e2⟩ := mergedH_old r _ hz
      exact ⟨x, hx, e2.trans e⟩
    · exact mergedH_key r _ h
/-- the two integers of a pair in the heap -/
def kOf (h : Heap) (u : Value) : Int × Int := match u with
  | .ref a => match h.get? a with
    | some o => match o.data with
      | .seq its _ => match its.toList with
        | [.int x _, .int y _] => (x, y)
        | _ => (0, 0)
      | _ => (0, 0)
    | none => (0, 0)
  | _ => (0, 0)
theorem kOf_pair {h : Heap} {u : Value} {x y : Int} (p : Srt.IsPair h u x y) : kOf h u = (x, y) := by
  obtain ⟨a, o, t, t2, n, rfl, ho, hc, hd⟩ := p
  show (match h.get? a with
    | some o => match o.data with
      | .seq its _ => match its.toList with
        | [.int x _, .int y _] => (x, y)
        | _ => (0, 0)
      | _ => (0, 0)
    | none => (0, 0)) = _
  rw [ho]
  show (match o.data with
      | .seq its _ => match its.toList with
        | [.int x _, .int y _] => (x, y)
        | _ => (0, 0)
      | _ => (0, 0)) = _
  rw [hd]
section
variable {prog : Program} {w : World} {A : Around} {E : Value → Shared → Prop}
/-- sorted(d), the keys being pairs of integers -/
theorem sorted_dH {s : Shared} {d : Addr} {xs : List KH} {k : Value → Int × Int} {Q : Value → Shared → Prop} (lo : (d == sysModules) = false) (hh : A.handled = none) (hm : s.heap.DictOfH (tupleKind (mixKind prog w)) d xs) (hz : xs.length ≤ sizeLine)
    (hp : ∀ v ∈ xs.map fun x => Value.ref x.2.1, Srt.IsPair s.heap v (k v).1 (k v).2)
    (h : ∀ (h1 h' : Heap) (tk : Nat) (out : List Value), SrtO.Srtd (fun v u => SrtO.lexB (k v) (k u)) out → SrtO.Stb (fun v u => SrtO.lexB (k v) (k u)) out (xs.map fun x => Value.ref x.2.1) → (∀ b o, s.heap.get? b = some o → h1.get? b = some o) → (∀ b o, h1.get? b = some o → h'.get? b = some o) → (∃ n, h'.get? h1.objs.size = some (seqObj "list" out.toArray n)) → Q (.ref h1.objs.size) { s with heap := h', toks := tk }) :
    wpAny (model prog w) A (call (.builtin "sorted") [.ref d]) Q E s := by
  obtain ⟨o, es, ep, ho, hx, hd, he, his, hn⟩ := hm
  have hsz : es.size = xs.length := size_of_entries he
  refine Calls.call_function_entry PyProof.Rows.kind_sorted PyProof.Rows.plain_sorted PyProof.Rows.entry_sorted (PyProof.Rows.args_sorted1 _) ?_
  unfold Builtin.«sorted»
  refine wpAny_bind (m := checkCount "sorted" 1 1 _) (wpAny_pure ?_)
  refine wpAny_bind (PySem.W.kdu_collect (A := A.in1) (kdl_raw (prog := prog) (w := w) lo hx hd) hh ho (by rw [hsz]; exact hz) fun h' tk acc hk hacc => ?_)
  have ea : acc.toList = xs.map fun x => Value.ref x.2.1 := by
    refine List.ext_getElem? fun j => ?_
    rw [Array.getElem?_toList, List.getElem?_map]
    cases ej : acc[j]? with
    | none =>
      have : acc.size ≤ j := Array.getElem?_eq_none_iff.mp ej
      rw [List.getElem?_eq_none (by rw [hacc.1, hsz] at this; exact this)]
      rfl
    | some v =>
      obtain ⟨en, e1, e2⟩ := hacc.2 j v ej
      rw [entry_at he j] at e1
      cases ex : xs[j]? with
      | none => rw [ex] at e1; cases e1
      | some x =>
        rw [ex] at e1
        have e3 : entryOfKey (tupleKind (mixKind prog w)) x = en := Option.some.inj e1
        rw [e2, ← e3]
        rfl
  have hal : acc.toList.length ≤ sizeLine := by rw [ea, List.length_map]; exact hz
  refine wpAny_bind (wpAny_newList ?_ hal)
  have hoL : (h'.push (seqObj "list" acc.toList.toArray 0)).get? h'.objs.size = some (seqObj "list" acc.toList.toArray 0) := Heap.get?_push_size _ rfl
  show wpAny _ _ _ _ _ { s with heap := h'.push (seqObj "list" acc.toList.toArray 0), toks := tk }
  have keep : ∀ b o, s.heap.get? b = some o → (h'.push (seqObj "list" acc.toList.toArray 0)).get? b = some o := fun b o e => Heap.get?_push_of_some _ (hk b o e)
  refine wpAny_bind (wpAny_holding (wpAny_call_entry PyProof.Rows.slot_list_sort ⟨_, hoL, rfl⟩ PyProof.Rows.entry_list_sort
    (SrtO.list_sort_ord (s := { s with heap := h'.push (seqObj "list" acc.toList.toArray 0), toks := tk }) (SrtO.swo_lex k) hoL hal (fun h2 => ?_) fun out hs hb => ⟨_, rfl, ?_⟩) (PyProof.Rows.args_list_sort _)))
  · refine SrtO.pairs_sortableO (s := { s with heap := h'.push (seqObj "list" acc.toList.toArray 0), toks := tk }) (by omega) (fun v hm => (hp v (by rw [← ea]; exact hm)).keeps fun b o e _ => keep b o e) fun o e => ?_
    have e' : some o = some (seqObj "list" acc.toList.toArray 0) := e.symm.trans hoL
    cases e'
    intro c
    exact absurd (Value.type.inj c) (by decide)
  · obtain ⟨e2, he2⟩ := PyProof.Rows.sortedHeap_at (vs := acc.toList) (out := out.toArray) hoL
    rw [ea] at hb
    refine wpAny_pure ⟨_, rfl, h h' _ _ out hs hb hk (fun b o e => ?_) ⟨e2, he2⟩⟩
    have hb : b < h'.objs.size := Heap.lt_size e
    rw [PyProof.Rows.sortedHeap_old (Nat.ne_of_lt hb) (by rw [size_push']; exact Nat.lt_succ_of_lt hb)]
    exact Heap.get?_push_of_some _ e
end
end PL
namespace PL
open PySem PySem.Spec PyProof.Rows L2
/-! ### sorted(dict(xs)) as a rule -/
section
variable {X : Cx}
/-- a pair of integers, a thing: what dict is made of -/
structure PrOk (K : PySem.W.Frag) (H : Hp) (x : V) (b : Addr) (i j : Int) : Prop where
  key : SqT K H b [.int i, .int j]
  out : ∃ t v, x = .ref t ∧ SqT K H t [.ref b, v]
def PairsAt (K : PySem.W.Frag) (H : Hp) : List V → List (Addr × (Int × Int)) → Prop := Paired fun x q => PrOk K H x q.1 q.2.1 q.2.2
def KeysAt (K : PySem.W.Frag) (H : Hp) : List V → List (Int × Int) → Prop := Paired fun x q => ∃ b, x = .ref b ∧ SqT K H b [.int q.1, .int q.2]
def tSD (K : PySem.W.Frag) (ta : TE) : TE := fun σ H Q => ta σ H fun x H1 => ∃ (l : Addr) (xs : List V) (qs : List (Addr × (Int × Int))), x = .ref l ∧ SqL K H1 l xs ∧ PairsAt K H1 xs qs ∧
  ∀ p ys, H1 p = none → KeysAt K H1 ys (sortU (qs.map (·.2))) → Q (.ref p) (upd H1 p (.lst ys))
theorem prs_of {pins : List (Addr × Obj)} {σ : L2.St} {H : Hp} {s : Shared} (I : Inv X pins σ H s) : ∀ {xs : List V} {qs : List (Addr × (Int × Int))} {us : List Value}, PairsAt X.K H xs qs → Vals xs us →
    ∃ prs : List KH, prs.length = us.length ∧ prs.map (fun q => (q.1, q.2.1)) = qs.map (fun q => ([Sum.inl q.2.1, Sum.inl q.2.2], q.1)) ∧
      ∀ (j : Nat) (q : KH), prs[j]? = some q → ∃ b : Addr, us[j]? = some (.ref b) ∧ IsTup s.heap b #[.ref q.2.1, q.2.2] ∧ IsTupleKey (mixKind X.prog X.w) s.heap q.1 q.2.1
  | _, _, _, .nil, .nil => ⟨[], rfl, rfl, fun j q e => by simp at e⟩
  | x :: xs, q :: qs, u :: us, .cons h t, .cons ru rt => by
    obtain ⟨prs, h1, h2, h3⟩ := prs_of I t rt
    obtain ⟨hk, tt, v, ex, ht⟩ := h
    subst ex
    obtain rfl : u = Value.ref tt := ru
    obtain ⟨its, rv, hT, _⟩ := I.tuple ht
    obtain ⟨u1, u2, ei, r1, r2⟩ := vals2 rv
    subst ei
    obtain rfl : u1 = Value.ref q.1 := r1
    obtain ⟨its2, rv2, hT2, _⟩ := I.tuple hk
    refine ⟨([Sum.inl q.2.1, Sum.inl q.2.2], q.1, u2) :: prs, by rw [List.length_cons, List.length_cons, h1], by rw [List.map_cons, List.map_cons, h2], fun j z e => ?_⟩
    cases j with
    | zero =>
      have e' := Option.some.inj e
      subst e'
      obtain ⟨o, ho, hc, n, hd⟩ := hT2
      exact ⟨tt, rfl, hT, o, its2.toArray, n, ho, hc, hd, by
        have := items_are (P := X.prog) (w := X.w) (ks := [Sum.inl q.2.1, Sum.inl q.2.2]) (us := its2) rv2
        simpa using this⟩
    | succ j =>
      obtain ⟨b, e1, e2⟩ := h3 j z (by simpa using e)
      exact ⟨b, by simpa using e1, e2⟩
theorem pair_raw {h : Heap} {b : Addr} {i j : Int} {P : Program} {w : World} (x : IsTupleKey (mixKind P w) h [Sum.inl i, Sum.inl j] b) : Srt.IsPair h (.ref b) i j := by
  obtain ⟨o, items, n, ho, hc, hd, hi⟩ := x
  obtain ⟨l⟩ := items
  have hi' : ItemsAre (mixKind P w) [Sum.inl i, Sum.inl j] l := hi
  cases hi' with
  | @cons _ u1 _ l1 a1 r1 =>
    cases r1 with
    | @cons _ u2 _ l2 a2 r2 =>
      cases r2
      rcases keyIs_shape (show keyIs (Sum.inl i) u1 = true from a1) with ⟨i1, t1, ek, ev⟩ | ⟨z, t, ek, ev⟩
      · cases ek
        subst ev
        rcases keyIs_shape (show keyIs (Sum.inl j) u2 = true from a2) with ⟨i2, t2, ek, ev⟩ | ⟨z, t, ek, ev⟩
        · cases ek
          subst ev
          exact ⟨b, o, t1, t2, n, rfl, ho, hc, hd⟩
        · cases ek
      · cases ek
theorem pe_sortedDict {a : Expr} {ta : TE} {p p2 q pos : Pos} (hc : X.calm = true) (hu : X.A.units + 64 < cLine) (hg : Gl X "sorted") (hm : X.mg "sorted" = none) (hg2 : Gl X "dict") (hm2 : X.mg "dict" = none) (hbs : bootBuiltins "sorted" = some (.builtin "sorted")) (hbd : bootBuiltins "dict" = some (.type "dict")) (ha : PE X a ta)
    (na : starEach [a] X.env = (false, eval a X.env) :: starEach [] X.env := by rfl) : PE X (.Call (.Name "sorted" p) [.Call (.Name "dict" p2) [a] [] q] [] pos) (tSD X.K ta) := by
  refine ⟨fun pins s σ H Q I h => ?_⟩
  refine Call_ (ld_blt I hg hm hbs ?_)
  refine PyProof.Rows.callWith_builtin1 (PyProof.Rows.args_cons ?_ rfl) rfl rfl
  refine Call_ (ld_blt I hg2 hm2 hbd ?_)
  refine PyProof.Rows.callWith_type1 (PyProof.Rows.args_cons (thn (ha.run pins s σ H _ I h) fun v s1 ⟨x, H1, I1, r1, q1⟩ => PyProof.Rows.args_nil ?_) na) na rfl
  obtain ⟨l, xs, qs, rfl, hq, hps, q1⟩ := q1
  cases r1
  obtain ⟨its, rv, pl, hz⟩ := I1.list hq
  obtain ⟨prs, e1, e2, e3⟩ := prs_of I1 hps rv
  obtain ⟨o, n, ho, hcl, hd, hdat⟩ := pl
  have hlen : its.length ≤ sizeLine := by rw [← rv.length]; exact hz
  refine call_dict_tups (n := n) (prs := prs) (by omega) (I1.ok.hd hc) ho hcl hd hdat (by rw [List.size_toArray, e1]) (by rw [e1]; exact hlen) (fun j z e => ?_) fun h' tk hD hk => ?_
  · obtain ⟨b, a1, a2, a3⟩ := e3 j z e
    exact ⟨b, by simpa using a1, a2, a3⟩
  refine PyProof.Rows.args_nil ?_
  have I2 : Inv X pins σ H1 { s1 with heap := h', toks := tk } := I1.kept hk
  have lo : (s1.heap.objs.size == sysModules) = false := beq_eq_false_iff_ne.mpr (Nat.ne_of_gt I1.big)
  have hml : (mergedH [] prs).length ≤ sizeLine := by
    have := mergedH_le prs []
    rw [List.length_nil, Nat.zero_add, e1] at this
    exact Nat.le_trans this hlen
  obtain ⟨od, es, ep, hod, hxd, hdd, hes, his, hnd⟩ := id hD
  -- each key of the dict is one of the pairs
  have has : ∀ x ∈ mergedH [] prs, ∃ q ∈ qs, x.1 = [Sum.inl q.2.1, Sum.inl q.2.2] ∧ x.2.1 = q.1 := fun x hx => by
    obtain ⟨y, hy, f1, f2⟩ := mergedH_has prs [] hx
    rcases hy with hy | hy
    · cases hy
    · have : (y.1, y.2.1) ∈ prs.map fun q => (q.1, q.2.1) := List.mem_map.mpr ⟨y, hy, rfl⟩
      rw [e2] at this
      obtain ⟨q, hq, eq⟩ := List.mem_map.mp this
      injection eq with g1 g2
      exact ⟨q, hq, f1.symm.trans g1.symm, f2.symm.trans g2.symm⟩
  have pr : ∀ x ∈ mergedH [] prs, ∀ q : Addr × (Int × Int), x.1 = [Sum.inl q.2.1, Sum.inl q.2.2] → Srt.IsPair h' (.ref x.2.1) q.2.1 q.2.2 := fun x hx q eq => pair_raw (P := X.prog) (w := X.w) (by rw [← eq]; exact his x hx)
  have hpair : ∀ v ∈ (mergedH [] prs).map fun x => Value.ref x.2.1, Srt.IsPair h' v (kOf h' v).1 (kOf h' v).2 := fun v hv => by
    obtain ⟨x, hx, rfl⟩ := List.mem_map.mp hv
    obtain ⟨q, _, f1, _⟩ := has x hx
    have z := pr x hx q f1
    rw [kOf_pair z]
    exact z
  refine sorted_dH (k := kOf h') lo (I2.ok.hd hc) hD hml hpair fun h2 h3 tk2 out hs hb k1 k2 hnew => ?_
  have I3 : Inv X pins σ H1 { s1 with heap := h2, toks := tk2 } := I2.kept k1
  -- the sorted list, element by element
  have hout : ∀ v ∈ out, ∃ x ∈ mergedH [] prs, v = Value.ref x.2.1 := fun v hv => by
    obtain ⟨x, hx, e⟩ := List.mem_map.mp (hb.perm.mem_iff.mp hv)
    exact ⟨x, hx, e.symm⟩
  have hkeys : KeysAt X.K H1 (out.map bkV) (out.map (kOf h')) := by
    clear hs hb hnew
    induction out with
    | nil => exact .nil
    | cons v out ih =>
      obtain ⟨x, hx, rfl⟩ := hout _ List.mem_cons_self
      obtain ⟨q, hqm, f1, f2⟩ := has x hx
      refine .cons ⟨x.2.1, rfl, ?_⟩ (ih fun u hu => hout u (List.mem_cons_of_mem _ hu))
      rw [kOf_pair (pr x hx q f1), f2]
      obtain ⟨j, hj⟩ := List.getElem?_of_mem hqm
      obtain ⟨xv, _, hpo⟩ := L2.DX.pget hps hj
      exact hpo.key
  have hsorted : out.map (kOf h') = sortU (qs.map (·.2)) := by
    refine lx_uniq ?_ (sortU_sorted _) fun z => ?_
    · -- strictly ascending
      have nd : (out.map (kOf h')).Nodup := by
        have p1 : (out.map (kOf h')).Perm (((mergedH [] prs).map fun x => Value.ref x.2.1).map (kOf h')) := hb.perm.map _
        refine p1.nodup_iff.mpr ?_
        rw [List.map_map]
        refine List.pairwise_map.mpr ?_
        have nd1 : (mergedH [] prs).Pairwise fun x y => x.1 ≠ y.1 := List.pairwise_map.mp hnd
        refine List.Pairwise.imp_of_mem (fun {x y} hx hy hne e => hne ?_) nd1
        obtain ⟨q1, _, f1, _⟩ := has x hx
        obtain ⟨q2, _, f2, _⟩ := has y hy
        have e' : kOf h' (.ref x.2.1) = kOf h' (.ref y.2.1) := e
        rw [kOf_pair (pr x hx q1 f1), kOf_pair (pr y hy q2 f2)] at e'
        injection e' with g1 g2
        rw [f1, f2, g1, g2]
      have sr : (out.map (kOf h')).Pairwise fun x y => SrtO.lexB y x = false := by
        refine List.pairwise_map.mpr ?_
        exact hs
      have both := nd.and sr
      refine List.Pairwise.imp (fun {x y} hxy => ?_) both
      refine Lx.tri y x (fun c => ?_) (Ne.symm hxy.1)
      have := hxy.2
      rw [show SrtO.lexB y x = true from c] at this
      cases this
    · rw [sortU_mem]
      constructor
      · intro hz
        obtain ⟨v, hv, rfl⟩ := List.mem_map.mp hz
        obtain ⟨x, hx, rfl⟩ := hout v hv
        obtain ⟨q, hqm, f1, _⟩ := has x hx
        rw [kOf_pair (pr x hx q f1)]
        exact List.mem_map.mpr ⟨q, hqm, rfl⟩
      · intro hz
        obtain ⟨q, hqm, rfl⟩ := List.mem_map.mp hz
        have : ([Sum.inl q.2.1, Sum.inl q.2.2], q.1) ∈ prs.map fun q => (q.1, q.2.1) := by
          rw [e2]
          exact List.mem_map.mpr ⟨q, hqm, rfl⟩
        obtain ⟨y, hy, ey⟩ := List.mem_map.mp this
        injection ey with g1 g2
        obtain ⟨x, hx, ex⟩ := mergedH_key prs [] hy
        refine List.mem_map.mpr ⟨.ref x.2.1, hb.perm.mem_iff.mpr (List.mem_map.mpr ⟨x, hx, rfl⟩), ?_⟩
        exact kOf_pair (pr x hx q (ex.trans g1))
  obtain ⟨n2, hn2⟩ := hnew
  have h3' : ∀ u ∈ out, ∃ a, u = Value.ref a := fun u hu => by
    obtain ⟨x, _, e⟩ := hout u hu
    exact ⟨_, e⟩
  have hlo : (out.map bkV).length ≤ sizeLine := by
    rw [List.length_map, hb.perm.length_eq, List.length_map]
    exact hml
  refine ⟨.ref h2.objs.size, upd H1 h2.objs.size (.lst (out.map bkV)), I3.laid (t' := tk2) k2 (Nat.le_refl _) ⟨hlo, out, n2, bkV_vals h3', hn2⟩, rfl, q1 _ _ (I3.hok.fresh (Nat.le_refl _)) ?_⟩
  rw [← hsorted]
  exact hkeys
end
end PL
namespace PL
open PySem PySem.Spec PyProof.Rows L2
/-! ### the same over the store -/
def pD (p : Int × Int) : D := .tup [.int p.1, .int p.2]
def dPr : D → Option (Int × Int)
  | .tup [.int i, .int j] => some (i, j)
  | _ => none
def dPrK : D → Option (Int × Int)
  | .tup [k, _] => dPr k
  | _ => none
def dPrs : List D → Option (List (Int × Int)) := mapO dPrK
def sdD (x : D) : M D := fun s => match seqD s x with
  | some ds => (match dPrs ds with
    | some ps => .ok (.vls ((sortU ps).map pD)) s
    | none => .stuck)
  | none => .stuck
theorem dPr_rep {K : PySem.W.Frag} {μ : Mu} {H : Hp} {d : D} {v : V} {p : Int × Int} (e : dPr d = some p) (r : Rep K μ H v d) : ∃ b, v = .ref b ∧ SqT K H b [.int p.1, .int p.2] := by
  unfold dPr at e
  split at e
  · cases e
    cases r with
    | tup hs hl =>
      cases hl with
      | cons a1 t1 =>
        cases t1 with
        | cons a2 t2 =>
          cases t2
          cases a1
          cases a2
          exact ⟨_, rfl, hs⟩
  · cases e
theorem dPrs_rep {K : PySem.W.Frag} {μ : Mu} {H : Hp} : ∀ {ds : List D} {xs : List V} {ps : List (Int × Int)}, dPrs ds = some ps → RepL K μ H xs ds → ∃ qs, PairsAt K H xs qs ∧ qs.map (·.2) = ps
  | [], _, ps, e, .nil => by
    cases e
    exact ⟨[], .nil, rfl⟩
  | d :: r, _, ps, e, .cons h t => by
    unfold dPrs mapO at e
    cases q : dPrK d with
    | none => rw [q] at e; cases e
    | some p =>
      rw [q] at e
      cases q2 : mapO dPrK r with
      | none => rw [q2] at e; cases e
      | some ms =>
        rw [q2] at e
        cases e
        obtain ⟨qs, h1, h2⟩ := dPrs_rep (ds := r) q2 t
        unfold dPrK at q
        split at q
        · cases h with
          | tup hs hl =>
            cases hl with
            | cons a1 t1 =>
              cases t1 with
              | cons a2 t2 =>
                cases t2
                obtain ⟨b, rfl, hb⟩ := dPr_rep q a1
                exact ⟨(b, p) :: qs, .cons ⟨hb, _, _, rfl, hs⟩ h1, by rw [List.map_cons, h2]⟩
        · cases q
theorem keys_rep {K : PySem.W.Frag} {μ : Mu} {H : Hp} : ∀ {ys : List V} {ps : List (Int × Int)}, KeysAt K H ys ps → RepL K μ H ys (ps.map pD)
  | _, _, .nil => .nil
  | _, _, .cons h t => by
    obtain ⟨b, rfl, hb⟩ := h
    exact .cons (.tup hb (.cons (.int _) (.cons (.int _) .nil))) (keys_rep t)
section
variable {X : Cx} {E : XK} {a : Expr} {ma : Env → M D} {pos p p2 q : Pos}
theorem se_sd (hc : X.calm = true) (hu : X.A.units + 64 < cLine) (ha : SE X E a ma) (hg : Gl X "sorted") (hm : X.mg "sorted" = none) (hg2 : Gl X "dict") (hm2 : X.mg "dict" = none) (hbs : bootBuiltins "sorted" = some (.builtin "sorted") := by decide +kernel) (hbd : bootBuiltins "dict" = some (.type "dict") := by decide +kernel)
    (na : starEach [a] X.env = (false, eval a X.env) :: starEach [] X.env := by rfl) : SE X E (.Call (.Name "sorted" p) [.Call (.Name "dict" p2) [a] [] q] [] pos) (unM sdD ma) := by
  refine PE.imp (pe_sortedDict hc hu hg hm hg2 hm2 hbs hbd ha na) ?_
  rintro σ H Q ⟨μ, env, s, hv, hs, post⟩
  refine ⟨μ, env, s, hv, hs, (Post.bind post).mono fun x s1 μ1 H1 g1 hs1 p1 v hx => ?_⟩
  unfold sdD at p1
  cases e1 : seqD s1 x with
  | none => simp only [e1] at p1; exact (show False from p1).elim
  | some ds =>
    cases e2 : dPrs ds with
    | none => simp only [e1, e2] at p1; exact (show False from p1).elim
    | some ps =>
      simp only [e1, e2] at p1
      obtain ⟨l, xs, rfl, hq, hl⟩ := seqD_rep hs1 hx e1
      obtain ⟨qs, h1, h2⟩ := dPrs_rep e2 hl
      refine ⟨l, xs, qs, rfl, hq, h1, fun p ys hp hk => ?_⟩
      rw [h2] at hk
      exact post_vls hs1 (keys_rep hk) p1 p hp
end
end PL

/-! PL9: in, slices, dict operations, statements that are never reached. -/
namespace PL
open PySem PySem.Spec PyProof.Rows L2
section
variable {X : Cx} {E : XK}
/-! ### what is never run -/
theorem se_stuck {e : Expr} (h : ∃ t, PE X e t) : SE X E e (fun _ => stuck) := by
  obtain ⟨t, h⟩ := h
  refine PE.imp h ?_
  rintro σ H Q ⟨μ, env, s, hv, hs, post⟩
  exact (show False from post).elim
theorem ss_stuck {st : Stmt} : SS X E st (fun _ => stuck) := ⟨fun pins s σ H Dd I q => by
  obtain ⟨μ, env, s, hv, hs, post⟩ := q
  exact (show False from post).elim⟩
theorem se_never {e : Expr} : SE X E e (fun _ => stuck) := ⟨fun pins s σ H Q I q => by
  obtain ⟨μ, env, s, hv, hs, post⟩ := q
  exact (show False from post).elim⟩
/-! ### x in y -/
def inP (s : S) (x : D) (l : Option PyData) : R D := match toPy s 12 x, l with
  | some d, some (.list es) => if (SeqAt.shaped d && SeqAt.shaped (.list es)) = true then .ok (.bl (es.any fun z => PyData.eqv z d)) s else .stuck
  | _, _ => .stuck
def flatD : D → Option V
  | .non => some .non
  | .bl b => some (.bl b)
  | .int i => some (.int i)
  | .str x => some (.str x)
  | _ => none
def inT (s : S) (x : D) (ds : List D) : R D := match flatD x, mapO flatD ds with
  | some v, some vs => .ok (.bl (inV v vs)) s
  | _, _ => .stuck
def inD (x y : D) : M D := fun s => match y with
  | .ptr n => (match s[n]? with
    | some (.dK kvs) => (match dKey x with
      | some k => .ok (.bl (valD kvs k).isSome) s
      | none => .stuck)
    | some (.lst ds) => inP s x (toPy s 13 (.ptr n))
    | _ => .stuck)
  | .flst ds => inP s x (toPy s 13 (.flst ds))
  | .vls ds => inP s x (toPy s 13 (.vls ds))
  | .tup ds => inT s x ds
  | _ => .stuck
def ninD : D → D → M D := notD inD
theorem flatD_rep {K : PySem.W.Frag} {μ : Mu} {H : Hp} {d : D} {v w : V} (e : flatD d = some w) (r : Rep K μ H v d) : v = w ∧ flatV w = true := by
  cases r <;> first | (cases e; exact ⟨rfl, rfl⟩) | cases e
theorem flatDs_rep {K : PySem.W.Frag} {μ : Mu} {H : Hp} : ∀ {ds : List D} {xs ws : List V}, mapO flatD ds = some ws → RepL K μ H xs ds → xs = ws ∧ ws.all flatV = true
  | [], _, ws, e, .nil => by cases e; exact ⟨rfl, rfl⟩
  | d :: r, _, ws, e, .cons h t => by
    unfold mapO at e
    cases q : flatD d with
    | none => rw [q] at e; cases e
    | some w =>
      rw [q] at e
      cases q2 : mapO flatD r with
      | none => rw [q2] at e; cases e
      | some ms =>
        rw [q2] at e
        cases e
        obtain ⟨h1, h2⟩ := flatD_rep q h
        obtain ⟨h3, h4⟩ := flatDs_rep q2 t
        exact ⟨by rw [h1, h3], by rw [List.all_cons, h2, h4]; rfl⟩
/-- what `in` gives, as a fact of both sides -/
theorem inD_core {K : PySem.W.Frag} {μ : Mu} {H : Hp} {st : S} {dx dy : D} {x y : V} {r : D} {st' : S} (hs : SimS K μ H st) (hx : Rep K μ H x dx) (hy : Rep K μ H y dy) (e : inD dx dy st = .ok r st') :
    st' = st ∧ ∃ b, r = .bl b ∧ ((∃ a o, y = .ref a ∧ DGet H a x o ∧ b = o.isSome) ∨ (∃ d es, Dp K H x d ∧ Dp K H y (.list es) ∧ SeqAt.shaped d = true ∧ SeqAt.shaped (.list es) = true ∧ b = es.any fun z => PyData.eqv z d) ∨
      ∃ p xs, y = .ref p ∧ SqT K H p xs ∧ flatV x = true ∧ xs.all flatV = true ∧ b = inV x xs) := by
  have lst : ∀ {l : D} (hl : Rep K μ H y l), inP st dx (toPy st 13 l) = .ok r st' → st' = st ∧ ∃ b, r = .bl b ∧ ((∃ a o, y = .ref a ∧ DGet H a x o ∧ b = o.isSome) ∨ (∃ d es, Dp K H x d ∧ Dp K H y (.list es) ∧ SeqAt.shaped d = true ∧ SeqAt.shaped (.list es) = true ∧ b = es.any fun z => PyData.eqv z d) ∨
      ∃ p xs, y = .ref p ∧ SqT K H p xs ∧ flatV x = true ∧ xs.all flatV = true ∧ b = inV x xs) := fun {l} hl e => by
    unfold inP at e
    split at e
    · rename_i d es e1 e2
      split at e
      · rename_i hsh
        rw [Bool.and_eq_true] at hsh
        cases e
        exact ⟨rfl, _, rfl, .inr (.inl ⟨d, es, toPy_dp hs 12 _ _ d e1 hx, toPy_dp hs 13 _ _ _ e2 hl, hsh.1, hsh.2, rfl⟩)⟩
      · cases e
    · cases e
  unfold inD at e
  cases hy with
  | @ptr a n hn =>
    simp only [] at e
    cases ec : st[n]? with
    | none => simp only [ec] at e; cases e
    | some c =>
      simp only [ec] at e
      cases c with
      | lst ds => exact lst (.ptr hn) e
      | dK kvs =>
        simp only [] at e
        cases ek : dKey dx with
        | none => simp only [ek] at e; cases e
        | some k =>
          simp only [ek] at e
          cases e
          obtain ⟨xs, h1, h2⟩ := cell_dK hs hn ec
          have eu := dKey_rep ek hx
          subst eu
          refine ⟨rfl, _, rfl, .inl ⟨a, valV xs k, rfl, DGet.k h1, ?_⟩⟩
          cases ev : valD kvs k with
          | none =>
            have : valV xs k = none := lmap_none h2 (by
              unfold valD at ev
              exact ev)
            rw [this]
            rfl
          | some d =>
            obtain ⟨w, hw, _⟩ := lmap_fst h2 ev
            rw [hw]
            rfl
      | dT kvs => cases e
      | dN kvs => cases e
      | fN kvs => cases e
      | ins C fs => cases e
      | fK kvs => cases e
  | @flst a xs ds h l => exact lst (.flst h l) e
  | @vls a xs ds h l => exact lst (.vls h l) e
  | @tup a xs ds h l =>
    simp only [] at e
    unfold inT at e
    split at e
    · rename_i v vs e1 e2
      cases e
      obtain ⟨h1, h2⟩ := flatD_rep e1 hx
      obtain ⟨h3, h4⟩ := flatDs_rep e2 l
      subst h1 h3
      exact ⟨rfl, _, rfl, .inr (.inr ⟨a, _, rfl, h, h2, h4, rfl⟩)⟩
    · cases e
  | _ => cases e
theorem inD_noexc {dx dy : D} {st st' : S} {c : Str} (e : inD dx dy st = .exc c st') : False := by
  unfold inD inP inT at e
  repeat (first | cases e | split at e)
theorem op_inDD (hu : X.A.units + 65 < cLine) : OpR X (compareOp .In) (R2of X.K E inD) := by
  intro pins s σ H x y v u Q I rx ry h
  obtain ⟨μ, st, dx, dy, hs, hx, hy, post⟩ := h
  cases e : inD dx dy st with
  | stuck => rw [e] at post; exact (show False from post).elim
  | exc c s' => exact (inD_noexc e).elim
  | ok r s' =>
    rw [e] at post
    obtain ⟨rfl, b, rfl, ⟨a, o, rfl, g, rfl⟩ | ⟨d, es, h1, h2, h3, h4, rfl⟩ | ⟨p, xs, rfl, h1, h2, h3, rfl⟩⟩ := inD_core hs hx hy e
    · obtain rfl : u = Value.ref a := ry
      exact d_in (by omega) I g rx fun s1 I1 => ⟨.bl _, H, I1, rfl, post_bl hs post⟩
    · exact op_inD hu pins s σ H _ _ v u Q I rx ry ⟨d, es, h1, h2, h3, h4, post_bl hs post⟩
    · exact op_in_seq pins s σ H _ _ v u Q I rx ry ⟨p, xs, rfl, .inr h1, h2, h3, post_bl hs post⟩
theorem op_ninDD (hu : X.A.units + 65 < cLine) : OpR X (compareOp .NotIn) (R2of X.K E ninD) := by
  intro pins s σ H x y v u Q I rx ry h
  obtain ⟨μ, st, dx, dy, hs, hx, hy, post⟩ := h
  unfold ninD notD at post
  rw [bind_run] at post
  cases e : inD dx dy st with
  | stuck => rw [e] at post; exact (show False from post).elim
  | exc c s' => exact (inD_noexc e).elim
  | ok r s' =>
    rw [e] at post
    obtain ⟨rfl, b, rfl, ⟨a, o, rfl, g, rfl⟩ | ⟨d, es, h1, h2, h3, h4, rfl⟩ | ⟨p, xs, rfl, h1, h2, h3, rfl⟩⟩ := inD_core hs hx hy e
    · obtain rfl : u = Value.ref a := ry
      exact d_notIn (by omega) I g rx fun s1 I1 => ⟨.bl _, H, I1, rfl, post_bl hs post⟩
    · exact op_notInD hu pins s σ H _ _ v u Q I rx ry ⟨d, es, h1, h2, h3, h4, post_bl hs post⟩
    · exact op_notIn_seq pins s σ H _ _ v u Q I rx ry ⟨p, xs, rfl, .inr h1, h2, h3, post_bl hs post⟩
/-! ### slices -/
def TOof (K : PySem.W.Frag) (E : XK) (m : Env → M (Option Int)) : TO := fun σ H Q => ∃ μ env s, SimV K μ H σ env ∧ SimS K μ H s ∧ Post K E μ H (m env s) (fun o _ _ H' => Q o H')
def SO (X : Cx) (E : XK) (e : Option Expr) (m : Env → M (Option Int)) : Prop := PO X e (TOof X.K E m)
theorem PO.imp {e : Option Expr} {t t' : TO} (h : PO X e t) (f : ∀ σ H Q, t' σ H Q → t σ H Q) : PO X e t' := ⟨fun pins s σ H Q I q => h.run pins s σ H Q I (f σ H Q q)⟩
def noP (_ : Env) : M (Option Int) := pure none
def inPt (m : Env → M D) (env : Env) : M (Option Int) := m env >>= fun d => match d with
  | .int i => pure (some i)
  | _ => stuck
theorem so_none : SO X E none noP := PO.imp po_none (by
  rintro σ H Q ⟨μ, env, s, hv, hs, post⟩
  exact Post.now (a := (none : Option Int)) post hs)
theorem so_some {e : Expr} {m : Env → M D} (h : SE X E e m) : SO X E (some e) (inPt m) := PO.imp (po_some h) (by
  rintro σ H Q ⟨μ, env, s, hv, hs, post⟩
  refine ⟨μ, env, s, hv, hs, (Post.bind post).mono fun d s1 μ1 H1 g1 hs1 p1 v hx => ?_⟩
  cases hx with
  | int i => exact ⟨i, rfl, Post.now (a := some i) p1 hs1⟩
  | _ => exact (show False from p1).elim)
def cutD (ds : List D) (lo hi : Option Int) : List D := (ds.drop (HT.sIx ds.length 0 lo)).take (HT.sIx ds.length ds.length hi - HT.sIx ds.length 0 lo)
def slD (x : D) (lo hi : Option Int) : M D := match x with
  | .tup ds => pure (.tup (cutD ds lo hi))
  | .flst ds => pure (.vls (cutD ds lo hi))
  | .vls ds => pure (.vls (cutD ds lo hi))
  | .str z => if z.length ≤ 100000 then pure (.str (cutS z lo hi)) else stuck
  | .ptr n => fun s => match s[n]? with
    | some (.lst ds) => .ok (.vls (cutD ds lo hi)) s
    | _ => .stuck
  | _ => stuck
def slM (ma : Env → M D) (ml mh : Env → M (Option Int)) (env : Env) : M D := ma env >>= fun x => ml env >>= fun l => mh env >>= fun h => slD x l h
theorem RepL.take' {K : PySem.W.Frag} {μ : Mu} {H : Hp} : ∀ {xs : List V} {ds : List D} (n : Nat), RepL K μ H xs ds → RepL K μ H (xs.take n) (ds.take n)
  | _, _, 0, _ => by rw [List.take_zero, List.take_zero]; exact .nil
  | _, _, n + 1, .nil => .nil
  | _, _, n + 1, .cons h t => .cons h (RepL.take' n t)
theorem RepL.drop' {K : PySem.W.Frag} {μ : Mu} {H : Hp} : ∀ {xs : List V} {ds : List D} (n : Nat), RepL K μ H xs ds → RepL K μ H (xs.drop n) (ds.drop n)
  | _, _, 0, h => h
  | _, _, n + 1, .nil => .nil
  | _, _, n + 1, .cons h t => RepL.drop' n t
theorem cut_rep {K : PySem.W.Frag} {μ : Mu} {H : Hp} {xs : List V} {ds : List D} (lo hi : Option Int) (h : RepL K μ H xs ds) : RepL K μ H (cutV xs lo hi) (cutD ds lo hi) := by
  unfold cutV cutD
  rw [h.length]
  exact RepL.take' _ (RepL.drop' _ h)
theorem cut_whole {ds : List D} {lo hi : Option Int} (h1 : HT.sIx ds.length 0 lo = 0) (h2 : HT.sIx ds.length ds.length hi = ds.length) : cutD ds lo hi = ds := by
  unfold cutD
  rw [h1, h2]
  exact List.take_length ..
theorem se_slice {e : Expr} {lo hi : Option Expr} {pos p2 : Pos} {ma : Env → M D} {ml mh : Env → M (Option Int)} (ha : SE X E e ma) (hl : SO X E lo ml) (hh : SO X E hi mh) : SE X E (.Subscript e (.Slice lo hi none p2) pos) (slM ma ml mh) :=
  PE.imp (pe_slice (SlR.or sl_list (SlR.or sl_tupA sl_str)) ha hl hh) (by
  rintro σ H Q ⟨μ, env, s, hv, hs, post⟩
  refine ⟨μ, env, s, hv, hs, (Post.bind post).mono fun x s1 μ1 H1 g1 hs1 p1 v hx => ⟨μ1, env, s1, hv.grow g1, hs1, (Post.bind p1).mono fun l s2 μ2 H2 g2 hs2 p2 => ⟨μ2, env, s2, (hv.grow g1).grow g2, hs2, (Post.bind p2).mono fun h s3 μ3 H3 g3 hs3 p3 => ?_⟩⟩⟩
  have hx3 := Rep.grow (g2.trans g3) x v hx
  unfold slD at p3
  cases hx3 with
  | @tup a xs ds ht hl =>
    refine .inr (.inl ⟨a, xs, rfl, ht, fun hw => ?_, fun _ => ?_⟩)
    · rw [hl.length] at hw
      simp only [cut_whole hw.1 hw.2] at p3
      exact post_val hs3 p3 (.tup ht hl)
    · exact post_tup hs3 (cut_rep l h hl) p3
  | @flst a xs ds ht hl => exact .inl ⟨a, xs, rfl, ht.sqL, post_vls hs3 (cut_rep l h hl) p3⟩
  | @vls a xs ds ht hl => exact .inl ⟨a, xs, rfl, ht.sqL, post_vls hs3 (cut_rep l h hl) p3⟩
  | str z =>
    simp only [] at p3
    split at p3
    · rename_i hz
      exact .inr (.inr ⟨z, rfl, sz_ok hz, post_val hs3 p3 (.str _)⟩)
    · exact (show False from p3).elim
  | @ptr a n hn =>
    simp only [] at p3
    cases ec : s3[n]? with
    | none => simp only [ec] at p3; exact (show False from p3).elim
    | some c =>
      simp only [ec] at p3
      cases c with
      | lst ds =>
        obtain ⟨xs, h1, hl⟩ := cell_lst hs3 hn ec
        exact .inl ⟨a, xs, rfl, SqL.of h1, post_vls hs3 (cut_rep l h hl) p3⟩
      | dK kvs => exact (show False from p3).elim
      | dT kvs => exact (show False from p3).elim
      | dN kvs => exact (show False from p3).elim
      | fN kvs => exact (show False from p3).elim
      | ins C fs => exact (show False from p3).elim
      | fK kvs => exact (show False from p3).elim
  | _ => exact (show False from p3).elim)
end
end PL

/-! PL10: dicts with keys that are texts or integers: stores, displays, get, pop, copies. -/
namespace PL
open PySem PySem.Spec PyProof.Rows L2
def putKD (kvs : List (Key × D)) (k : Key) (v : D) : List (Key × D) :=
  if (kvs.any fun kv => decide (kv.1 = k)) = true then kvs.map (fun kv => if kv.1 = k then (kv.1, v) else kv) else kvs ++ [(k, v)]
def dropKD (kvs : List (Key × D)) (k : Key) : List (Key × D) := kvs.filter fun kv => decide (kv.1 ≠ k)
theorem any_rep {K : PySem.W.Frag} {μ : Mu} {H : Hp} {k : Key} : ∀ {xs : List (Key × V)} {ds : List (Key × D)}, RepK K μ H xs ds → (xs.any fun kv => decide (kv.1 = k)) = ds.any fun kv => decide (kv.1 = k)
  | [], [], _ => rfl
  | [], q :: ds, h => by have := h.1; simp at this
  | p :: xs, [], h => by have := h.1; simp at this
  | p :: xs, q :: ds, ⟨h1, h2⟩ => by
    rw [List.map_cons, List.map_cons] at h1 h2
    cases h2 with
    | cons r t => rw [List.any_cons, List.any_cons, (List.cons.inj h1).1, any_rep ⟨(List.cons.inj h1).2, t⟩]
theorem repl_rep {K : PySem.W.Frag} {μ : Mu} {H : Hp} {k : Key} {v : V} {d : D} (r0 : Rep K μ H v d) : ∀ {xs : List (Key × V)} {ds : List (Key × D)}, RepK K μ H xs ds → RepK K μ H (xs.map fun kv => if kv.1 = k then (kv.1, v) else kv) (ds.map fun kv => if kv.1 = k then (kv.1, d) else kv)
  | [], [], h => h
  | [], q :: ds, h => by have := h.1; simp at this
  | p :: xs, [], h => by have := h.1; simp at this
  | p :: xs, q :: ds, ⟨h1, h2⟩ => by
    rw [List.map_cons, List.map_cons] at h1 h2
    cases h2 with
    | cons r t =>
      obtain ⟨i1, i2⟩ := repl_rep r0 (k := k) ⟨(List.cons.inj h1).2, t⟩
      have e := (List.cons.inj h1).1
      unfold RepK
      rw [List.map_cons, List.map_cons, List.map_cons, List.map_cons, List.map_cons, List.map_cons]
      by_cases hk : q.1 = k
      · rw [if_pos hk, if_pos (e.trans hk)]
        exact ⟨by rw [i1, e], .cons r0 i2⟩
      · rw [if_neg hk, if_neg (fun z => hk (e.symm.trans z))]
        exact ⟨by rw [i1, e], .cons r i2⟩
theorem RepL.snoc {K : PySem.W.Frag} {μ : Mu} {H : Hp} {v : V} {d : D} (r : Rep K μ H v d) : ∀ {xs : List V} {ds : List D}, RepL K μ H xs ds → RepL K μ H (xs ++ [v]) (ds ++ [d])
  | _, _, .nil => .cons r .nil
  | _, _, .cons h t => .cons h (RepL.snoc r t)
theorem putK_rep {K : PySem.W.Frag} {μ : Mu} {H : Hp} {k : Key} {v : V} {d : D} {xs : List (Key × V)} {ds : List (Key × D)} (h : RepK K μ H xs ds) (r : Rep K μ H v d) : RepK K μ H (putK xs k v) (putKD ds k d) := by
  unfold putK putKD
  rw [any_rep h]
  split
  · exact repl_rep r h
  · refine ⟨by rw [List.map_append, List.map_append, h.1]; rfl, ?_⟩
    rw [List.map_append, List.map_append]
    exact RepL.snoc r h.2
theorem dropK_rep {K : PySem.W.Frag} {μ : Mu} {H : Hp} {k : Key} : ∀ {xs : List (Key × V)} {ds : List (Key × D)}, RepK K μ H xs ds → RepK K μ H (dropK xs k) (dropKD ds k)
  | [], [], h => h
  | [], q :: ds, h => by have := h.1; simp at this
  | p :: xs, [], h => by have := h.1; simp at this
  | p :: xs, q :: ds, ⟨h1, h2⟩ => by
    rw [List.map_cons, List.map_cons] at h1 h2
    cases h2 with
    | cons r t =>
      obtain ⟨i1, i2⟩ := dropK_rep (k := k) ⟨(List.cons.inj h1).2, t⟩
      have e := (List.cons.inj h1).1
      unfold dropK dropKD at *
      by_cases hk : q.1 = k
      · rw [List.filter_cons_of_neg (by have := e.trans hk; simp [this]), List.filter_cons_of_neg (by simp [hk])]
        exact ⟨i1, i2⟩
      · rw [List.filter_cons_of_pos (by have : ¬ p.1 = k := fun z => hk (e.symm.trans z); simp [this]), List.filter_cons_of_pos (by simp [hk])]
        unfold RepK
        rw [List.map_cons, List.map_cons, List.map_cons, List.map_cons]
        exact ⟨by rw [i1, e], .cons r i2⟩
theorem RepK.length {κ : Type} {K : PySem.W.Frag} {μ : Mu} {H : Hp} {xs : List (κ × V)} {ds : List (κ × D)} (h : RepK K μ H xs ds) : xs.length = ds.length := by
  have e := congrArg List.length h.1
  rw [List.length_map, List.length_map] at e
  exact e
theorem line_of {n : Nat} (h : n < 100000) : n < sizeLine := Nat.lt_of_lt_of_le h (by decide)
/-! ### stores -/
def setXD (o i v : D) : M Unit := match o with
  | .ptr n => fun s => match s[n]? with
    | some (.lst ds) => putL ds i v n s
    | some (.dK kvs) => (match dKey i with
      | some k => if kvs.length < 100000 then .ok () (s.set n (.dK (putKD kvs k v))) else .stuck
      | none => .stuck)
    | _ => .stuck
  | _ => stuck
def rSetX (o i v : V) (H : Hp) (Q : Hp → Prop) : Prop := rSetL o i v H Q ∨ ∃ a H', o = .ref a ∧ DPut H a i v H' ∧ Q H'
section
variable {X : Cx} {E : XK}
theorem set_any (hu : X.A.units + 1 < cLine) : PSet X rSetX := by
  intro pins s σ H o i v ov iv u Q I ro ri rv h
  rcases h with h | ⟨a, H', rfl, g, q⟩
  · exact set_list pins s σ H o i v ov iv u Q I ro ri rv h
  · obtain rfl : ov = Value.ref a := ro
    exact d_setItem hu I g ri rv fun s1 I1 => ⟨H', I1, q⟩
theorem put_cell {K : PySem.W.Frag} {μ : Mu} {H : Hp} {s : S} {n : Nat} {a : Addr} {xs ys : List (Key × V)} {kvs : List (Key × D)} (hs : SimS K μ H s) (hn : μ.c[n]? = some a) (h : H a = some (.dK xs)) (l : RepK K μ H ys kvs) :
    Grow μ H μ (upd H a (.dK ys)) ∧ SimS K μ (upd H a (.dK ys)) (s.set n (.dK kvs)) := by
  have hm : Mut (H a) := by rw [h]; trivial
  have g := grow_put (μ := μ) (H := H) (a := a) (o := .dK ys) hm (List.mem_of_getElem? hn)
  exact ⟨g, hs.put hn hm ⟨_, upd_same, l.grow g⟩⟩
theorem setX_ok {K : PySem.W.Frag} {μ : Mu} {H : Hp} {s : S} {o i v : D} {x y z : V} {q : Unit → S → Mu → Hp → Prop} (hs : SimS K μ H s) (ro : Rep K μ H x o) (ri : Rep K μ H y i) (rv : Rep K μ H z v) (post : Post K E μ H (setXD o i v s) q) :
    rSetX x y z H (fun H' => ∃ s', Grow μ H μ H' ∧ SimS K μ H' s' ∧ q () s' μ H') := by
  cases ro with
  | @ptr a n hn =>
    cases ec : s[n]? with
    | none => unfold setXD at post; simp only [ec] at post; exact (show False from post).elim
    | some cl =>
      cases cl with
      | lst ds =>
        refine .inl (setL_ok (E := E) (o := .ptr n) (i := i) (v := v) hs (.ptr hn) ri rv ?_)
        unfold setXD at post
        unfold setLD
        simp only [ec] at post ⊢
        exact post
      | dK kvs =>
        unfold setXD at post
        simp only [ec] at post
        cases ek : dKey i with
        | none => simp only [ek] at post; exact (show False from post).elim
        | some k =>
          simp only [ek] at post
          split at post
          · rename_i hz
            obtain ⟨xs, h1, h2⟩ := cell_dK hs hn ec
            have eu := dKey_rep ek ri
            subst eu
            obtain ⟨g, hs'⟩ := put_cell hs hn h1 (putK_rep (k := k) h2 rv)
            exact .inr ⟨a, _, rfl, DPut.k h1 (line_of (by rw [h2.length]; exact hz)), _, g, hs', post _ _ g hs'⟩
          · exact (show False from post).elim
      | dT kvs => unfold setXD at post; simp only [ec] at post; exact (show False from post).elim
      | dN kvs => unfold setXD at post; simp only [ec] at post; exact (show False from post).elim
      | fN kvs => unfold setXD at post; simp only [ec] at post; exact (show False from post).elim
      | ins C fs => unfold setXD at post; simp only [ec] at post; exact (show False from post).elim
      | fK kvs => unfold setXD at post; simp only [ec] at post; exact (show False from post).elim
  | _ => exact (show False from post).elim
theorem sg_subX {a b : Expr} {ma mb : Env → M D} {pos : Pos} (hu : X.A.units + 1 < cLine) (ha : SE X E a ma) (hb : SE X E b mb) (hh : ∀ v, assign (.Subscript a b pos) X.env v = (do
      let ov ← holding [v] (eval a X.env)
      let iv ← holding [v, ov] (eval b X.env)
      standAt pos
      holding [v, ov, iv] (setItem ov iv v)
      release [v, ov, iv] []) := by intro _; rfl) : SG X E (.Subscript a b pos) (gSubM ma mb setXD) := PG.imp (pg_sub ha hb (set_any hu) hh) (by
  rintro v σ H Q ⟨μ, env, s, d, hv, hs, r, post⟩
  refine ⟨μ, env, s, hv, hs, (Post.bind post).mono fun o s1 μ1 H1 g1 hs1 p1 x hx => ?_⟩
  refine ⟨μ1, env, s1, hv.grow g1, hs1, (Post.bind p1).mono fun i s2 μ2 H2 g2 hs2 p2 y hy => ?_⟩
  have z := setX_ok hs2 (Rep.grow g2 o x hx) hy (Rep.grow (g1.trans g2) d v r) (Post.bind p2)
  rcases z with ⟨a, xs, k, j, e1, e2, h1, h2, s3, g3, hs3, q3⟩ | ⟨a, H', e1, h1, s3, g3, hs3, q3⟩
  · exact .inl ⟨a, xs, k, j, e1, e2, h1, h2, Post.now (a := env) q3 hs3 _ (((hv.grow g1).grow g2).grow g3)⟩
  · exact .inr ⟨a, H', e1, h1, Post.now (a := env) q3 hs3 _ (((hv.grow g1).grow g2).grow g3)⟩)
/-! ### displays -/
theorem post_dict {K : PySem.W.Frag} {μ : Mu} {H : Hp} {s : S} {kvs : List (Key × D)} {xs : List (Key × V)} {Q : VK} (hs : SimS K μ H s) (r : RepK K μ H xs kvs) (h : Post K E μ H (allocC (.dK kvs) s) (okD K Q)) : ∀ p, H p = none → Q (.ref p) (upd H p (.dK xs)) := fun p hp => by
  have hs2 : SimS K (μ.add p) (upd H p (.dK xs)) (s ++ [.dK kvs]) := hs.alloc hp ⟨xs, upd_same, r.grow (grow_cell hp)⟩
  exact h _ _ (grow_cell hp) hs2 (.ref p) (.ptr (add_at hs))
theorem se_dnew {pos : Pos} : SE X E (.Dict [] [] pos) (fun _ => allocC (.dK [])) := PE.imp pe_dnewK (by
  rintro σ H Q ⟨μ, env, s, hv, hs, post⟩
  exact post_dict (xs := []) hs ⟨rfl, .nil⟩ post)
/-- the pairs of a display -/
def pNil (_ : Env) : M (List (D × D)) := pure []
def pCons (mk mv : Env → M D) (mr : Env → M (List (D × D))) (env : Env) : M (List (D × D)) := mk env >>= fun k => mv env >>= fun v => mr env >>= fun r => pure ((k, v) :: r)
def dKeys : List (D × D) → Option (List (Key × D)) := mapO fun p => (dKey p.1).map fun k => (k, p.2)
def mergeKD (kvs more : List (Key × D)) : List (Key × D) := more.foldl (fun acc kv => putKD acc kv.1 kv.2) kvs
def fillC (n : Nat) (ps : List (D × D)) : M D := fun s => match s[n]?, dKeys ps with
  | some (.dK []), some kvs => if kvs.length ≤ 15 then .ok (.ptr n) (s.set n (.dK (mergeKD [] kvs))) else .stuck
  | _, _ => .stuck
def dispM (mr : Env → M (List (D × D))) (env : Env) : M D := allocC (.dK []) >>= fun p => mr env >>= fun ps => match p with
  | .ptr n => fillC n ps
  | _ => stuck
/-- each pair stands for the other -/
def RepP (K : PySem.W.Frag) (μ : Mu) (H : Hp) (ps : List (V × V)) (ds : List (D × D)) : Prop := RepL K μ H (ps.map (·.1)) (ds.map (·.1)) ∧ RepL K μ H (ps.map (·.2)) (ds.map (·.2))
def TPof (K : PySem.W.Frag) (E : XK) (m : Env → M (List (D × D))) : L2.St → Hp → (List (V × V) → Hp → Prop) → Prop := fun σ H Q => ∃ μ env s, SimV K μ H σ env ∧ SimS K μ H s ∧ Post K E μ H (m env s) (fun ds _ μ' H' => ∀ ps, RepP K μ' H' ps ds → Q ps H')
structure SPs (X : Cx) (E : XK) (pos : Pos) (keys : List (Option Expr)) (values : List Expr) (m : Env → M (List (D × D))) : Prop where
  run : ∃ trs, PPs X pos keys values trs ∧ ∀ σ H Q, TPof X.K E m σ H Q → tPairs trs σ H Q
theorem sps_nil {pos : Pos} : SPs X E pos [] [] pNil := ⟨[], pps_nil, by
  rintro σ H Q ⟨μ, env, s, hv, hs, post⟩
  exact Post.now (a := ([] : List (D × D))) post hs [] ⟨.nil, .nil⟩⟩
theorem sps_cons {pos : Pos} {k v : Expr} {ks : List (Option Expr)} {vs : List Expr} {mk mv : Env → M D} {mr : Env → M (List (D × D))} (hk : SE X E k mk) (hv : SE X E v mv) (hr : SPs X E pos ks vs mr) : SPs X E pos (some k :: ks) (v :: vs) (pCons mk mv mr) := by
  obtain ⟨trs, h1, h2⟩ := hr
  refine ⟨(TEof X.K E mk, TEof X.K E mv) :: trs, pps_cons hk hv h1, ?_⟩
  rintro σ H Q ⟨μ, env, s, hv, hs, post⟩
  refine ⟨μ, env, s, hv, hs, (Post.bind post).mono fun dk s1 μ1 H1 g1 hs1 p1 x hx => ⟨μ1, env, s1, hv.grow g1, hs1, (Post.bind p1).mono fun dv s2 μ2 H2 g2 hs2 p2 y hy => h2 _ _ _ ⟨μ2, env, s2, (hv.grow g1).grow g2, hs2, (Post.bind p2).mono fun r s3 μ3 H3 g3 hs3 p3 ps hps => ?_⟩⟩⟩
  exact Post.now (a := (dk, dv) :: r) p3 hs3 ((x, y) :: ps) ⟨.cons (Rep.grow (g2.trans g3) _ _ hx) hps.1, .cons (Rep.grow g3 _ _ hy) hps.2⟩
theorem dKeys_rep {K : PySem.W.Frag} {μ : Mu} {H : Hp} : ∀ {ds : List (D × D)} {ps : List (V × V)} {kvs : List (Key × D)}, dKeys ds = some kvs → RepP K μ H ps ds → ∃ xs : List (Key × V), ps = xs.map (fun kv => (kV kv.1, kv.2)) ∧ RepK K μ H xs kvs
  | [], ps, kvs, e, ⟨h1, h2⟩ => by
    cases e
    cases ps with
    | nil => exact ⟨[], rfl, rfl, .nil⟩
    | cons p ps => rw [List.map_cons] at h1; cases h1
  | d :: ds, ps, kvs, e, ⟨h1, h2⟩ => by
    cases ps with
    | nil => rw [List.map_cons] at h1; cases h1
    | cons p ps =>
      rw [List.map_cons, List.map_cons] at h1 h2
      cases h1 with
      | cons r1 t1 =>
        cases h2 with
        | cons r2 t2 =>
          unfold dKeys mapO at e
          cases q : dKey d.1 with
          | none => rw [q] at e; cases e
          | some k =>
            rw [q] at e
            cases q2 : mapO (fun p : D × D => (dKey p.1).map fun k => (k, p.2)) ds with
            | none => rw [q2] at e; cases e
            | some ms =>
              rw [q2] at e
              cases e
              obtain ⟨xs, e1, e2, e3⟩ := dKeys_rep (ds := ds) q2 ⟨t1, t2⟩
              refine ⟨(k, p.2) :: xs, ?_, ?_, ?_⟩
              · rw [List.map_cons, ← e1, ← dKey_rep q r1]
              · rw [List.map_cons, List.map_cons, e2]
              · rw [List.map_cons, List.map_cons]
                exact .cons r2 e3
theorem merge_rep {K : PySem.W.Frag} {μ : Mu} {H : Hp} : ∀ {more : List (Key × V)} {md : List (Key × D)} {xs : List (Key × V)} {ds : List (Key × D)}, RepK K μ H more md → RepK K μ H xs ds → RepK K μ H (mergeK xs more) (mergeKD ds md)
  | [], [], xs, ds, _, h => h
  | [], q :: md, _, _, h, _ => by have := h.1; simp at this
  | p :: more, [], _, _, h, _ => by have := h.1; simp at this
  | p :: more, q :: md, xs, ds, ⟨h1, h2⟩, h => by
    rw [List.map_cons, List.map_cons] at h1 h2
    cases h2 with
    | cons r t =>
      show RepK K μ H (mergeK (putK xs p.1 p.2) more) (mergeKD (putKD ds q.1 q.2) md)
      have e := (List.cons.inj h1).1
      rw [e]
      exact merge_rep ⟨(List.cons.inj h1).2, t⟩ (putK_rep h r)
theorem se_disp {pos : Pos} {keys : List (Option Expr)} {values : List Expr} {mr : Env → M (List (D × D))} (h : SPs X E pos keys values mr) (hall : keys.all (·.isSome) = true := by rfl) (hl : keys.length = values.length := by rfl) (h0 : keys ≠ [] := by exact List.cons_ne_nil _ _)
    (h15 : keys.length ≤ 15 := by decide) : SE X E (.Dict keys values pos) (dispM mr) := by
  obtain ⟨trs, h1, h2⟩ := h
  refine PE.imp (pe_disp h1 hall hl h0 h15) ?_
  rintro σ H Q ⟨μ, env, s, hv, hs, post⟩ p hp
  have hs2 : SimS X.K (μ.add p) (upd H p (.dK [])) (s ++ [.dK []]) := hs.alloc hp ⟨[], upd_same, rfl, .nil⟩
  have g := grow_cell (μ := μ) (o := .dK []) hp
  have post1 : Post X.K E (μ.add p) (upd H p (.dK [])) ((mr env >>= fun ps => fillC s.length ps) (s ++ [.dK []])) (okD X.K Q) := Post.later g post
  refine h2 _ _ _ ⟨μ.add p, env, _, hv.grow g, hs2, (Post.bind post1).mono fun ds s1 μ1 H1 g1 hs1 p1 ps hps => ?_⟩
  have hat : μ1.c[s.length]? = some p := g1.at (add_at hs)
  unfold fillC at p1
  cases ec : s1[s.length]? with
  | none => simp only [ec] at p1; exact (show False from p1).elim
  | some cl =>
    simp only [ec] at p1
    split at p1
    · rename_i kvs e1 e2
      cases e1
      split at p1
      · rename_i hz
        obtain ⟨xs, f1, f2⟩ := cell_dK hs1 hat ec
        have fx : xs = [] := by
          have := f2.length
          exact List.length_eq_zero_iff.mp this
        subst fx
        obtain ⟨ys, y1, y2⟩ := dKeys_rep e2 hps
        refine ⟨f1, ys, y1, by rw [y2.length]; exact hz, ?_⟩
        obtain ⟨g2, hs3⟩ := put_cell hs1 hat f1 (merge_rep y2 (xs := []) (ds := []) ⟨rfl, .nil⟩)
        exact p1 _ _ g2 hs3 (.ref p) (.ptr hat)
      · exact (show False from p1).elim
    · exact (show False from p1).elim
end
end PL

/-! PL11: get, pop, dict(d), sorted(d). -/
namespace PL
open PySem PySem.Spec PyProof.Rows L2
def isDk (x : D) : M Unit := match x with
  | .ptr n => fun s => match s[n]? with
    | some (.dK _) => .ok () s
    | _ => .stuck
  | _ => stuck
def withK {α : Type} (x y : D) (F : List (Key × D) → Key → Nat → M α) : M α := match x with
  | .ptr n => fun s => match s[n]?, dKey y with
    | some (.dK kvs), some k => F kvs k n s
    | _, _ => .stuck
  | _ => stuck
def dgetD (x y z : D) : M D := withK x y fun kvs k _ s => .ok ((valD kvs k).getD z) s
/-- d.pop(k): there -/
def dpop1D (x y : D) : M D := withK x y fun kvs k n s => match valD kvs k with
  | some v => .ok v (s.set n (.dK (dropKD kvs k)))
  | none => .stuck
def dpop2D (x y z : D) : M D := withK x y fun kvs k n s => match valD kvs k with
  | some v => .ok v (s.set n (.dK (dropKD kvs k)))
  | none => .ok z s
def dm1 (f : D → D → M D) (mo me : Env → M D) (env : Env) : M D := mo env >>= fun x => isDk x >>= fun _ => me env >>= fun y => f x y
def dm2 (f : D → D → D → M D) (mo me mf : Env → M D) (env : Env) : M D := mo env >>= fun x => isDk x >>= fun _ => me env >>= fun y => mf env >>= fun z => f x y z
section
variable {X : Cx} {E : XK} {o e f : Expr} {mo me mf : Env → M D} {apos cpos : Pos}
theorem isDk_ok {K : PySem.W.Frag} {α : Type} {μ : Mu} {H : Hp} {s : S} {x : D} {v : V} {g : Unit → M α} {q : α → S → Mu → Hp → Prop} (hs : SimS K μ H s) (hx : Rep K μ H v x) (post : Post K E μ H ((isDk x >>= g) s) q) : ∃ a, v = .ref a ∧ IsD H a ∧ Post K E μ H (g () s) q := by
  rw [bind_run] at post
  unfold isDk at post
  cases hx with
  | @ptr a n hn =>
    cases ec : s[n]? with
    | none => simp only [ec] at post; exact (show False from post).elim
    | some cl =>
      simp only [ec] at post
      cases cl with
      | dK kvs =>
        obtain ⟨xs, h1, _⟩ := cell_dK hs hn ec
        exact ⟨a, rfl, .inl ⟨xs, .inl h1⟩, post⟩
      | lst ds => exact (show False from post).elim
      | dT kvs => exact (show False from post).elim
      | dN kvs => exact (show False from post).elim
      | fN kvs => exact (show False from post).elim
      | ins C fs => exact (show False from post).elim
      | fK kvs => exact (show False from post).elim
  | _ => exact (show False from post).elim
theorem val_rep {K : PySem.W.Frag} {μ : Mu} {H : Hp} {xs : List (Key × V)} {kvs : List (Key × D)} (h : RepK K μ H xs kvs) (k : Key) : (∃ v d, valV xs k = some v ∧ valD kvs k = some d ∧ Rep K μ H v d) ∨ (valV xs k = none ∧ valD kvs k = none) := by
  cases ev : valD kvs k with
  | none => exact .inr ⟨lmap_none h (by unfold valD at ev; exact ev), rfl⟩
  | some d =>
    obtain ⟨w, hw, r⟩ := lmap_fst h ev
    exact .inl ⟨w, d, hw, rfl, r⟩
/-- what the dict has, for a key -/
theorem cellK {K : PySem.W.Frag} {μ : Mu} {H : Hp} {s : S} {x y : D} {v u : V} {α : Type} {F : List (Key × D) → Key → Nat → M α} {q : α → S → Mu → Hp → Prop} (hs : SimS K μ H s) (hx : Rep K μ H v x) (hy : Rep K μ H u y)
    (post : Post K E μ H (withK x y F s) q) : ∃ a n xs kvs k, v = .ref a ∧ μ.c[n]? = some a ∧ H a = some (.dK xs) ∧ RepK K μ H xs kvs ∧ u = kV k ∧ s[n]? = some (.dK kvs) ∧ Post K E μ H (F kvs k n s) q := by
  unfold withK at post
  cases hx with
  | @ptr a n hn =>
    simp only [] at post
    cases ec : s[n]? with
    | none => simp only [ec] at post; exact (show False from post).elim
    | some cl =>
      cases ek : dKey y with
      | none => simp only [ec, ek] at post; exact (show False from post).elim
      | some k =>
        simp only [ec, ek] at post
        cases cl with
        | dK kvs =>
          obtain ⟨xs, h1, h2⟩ := cell_dK hs hn ec
          exact ⟨a, n, xs, kvs, k, rfl, hn, h1, h2, dKey_rep ek hy, ec, post⟩
        | lst ds => exact (show False from post).elim
        | dT kvs => exact (show False from post).elim
        | dN kvs => exact (show False from post).elim
        | fN kvs => exact (show False from post).elim
        | ins C fs => exact (show False from post).elim
        | fK kvs => exact (show False from post).elim
  | _ => exact (show False from post).elim
theorem se_get1 (hu : X.A.units + 1 < cLine) (ho : SE X E o mo) (he : SE X E e me) (m : M1 X o "get" apos e cpos) : SE X E (.Call (.Attribute o "get" apos) [e] [] cpos) (dm1 (fun x y => dgetD x y .non) mo me) := PE.imp (pe_dget1 hu ho he m) (by
  rintro σ H Q ⟨μ, env, s, hv, hs, post⟩
  refine ⟨μ, env, s, hv, hs, (Post.bind post).mono fun x s1 μ1 H1 g1 hs1 p1 v hx => ?_⟩
  obtain ⟨a, rfl, hd, p2⟩ := isDk_ok hs1 hx p1
  refine ⟨a, rfl, hd, μ1, env, s1, hv.grow g1, hs1, (Post.bind p2).mono fun y s2 μ2 H2 g2 hs2 p3 u hy => ?_⟩
  unfold dgetD at p3
  obtain ⟨b, n, xs, kvs, k, e1, hn, h1, h2, rfl, ec, p4⟩ := cellK hs2 (Rep.grow g2 _ _ hx) hy p3
  cases e1
  refine ⟨valV xs k, DGet.k h1, ?_⟩
  rcases val_rep h2 k with ⟨w, d, e1, e2, r⟩ | ⟨e1, e2⟩
  · rw [e1]
    rw [e2] at p4
    exact post_val hs2 p4 r
  · rw [e1]
    rw [e2] at p4
    exact post_val hs2 p4 .non)
theorem se_get2 (hu : X.A.units + 1 < cLine) (ho : SE X E o mo) (he : SE X E e me) (hf : SE X E f mf) (m : M2 X o "get" apos e f cpos) : SE X E (.Call (.Attribute o "get" apos) [e, f] [] cpos) (dm2 dgetD mo me mf) := PE.imp (pe_dget2 hu ho he hf m) (by
  rintro σ H Q ⟨μ, env, s, hv, hs, post⟩
  refine ⟨μ, env, s, hv, hs, (Post.bind post).mono fun x s1 μ1 H1 g1 hs1 p1 v hx => ?_⟩
  obtain ⟨a, rfl, hd, p2⟩ := isDk_ok hs1 hx p1
  refine ⟨a, rfl, hd, μ1, env, s1, hv.grow g1, hs1, (Post.bind p2).mono fun y s2 μ2 H2 g2 hs2 p3 u hy => ⟨μ2, env, s2, (hv.grow g1).grow g2, hs2, (Post.bind p3).mono fun z s3 μ3 H3 g3 hs3 p4 w hz => ?_⟩⟩
  unfold dgetD at p4
  obtain ⟨b, n, xs, kvs, k, e1, hn, h1, h2, rfl, ec, p5⟩ := cellK hs3 (Rep.grow (g2.trans g3) _ _ hx) (Rep.grow g3 _ _ hy) p4
  cases e1
  refine ⟨valV xs k, DGet.k h1, ?_⟩
  rcases val_rep h2 k with ⟨w, d, e1, e2, r⟩ | ⟨e1, e2⟩
  · rw [e1]
    rw [e2] at p5
    exact post_val hs3 p5 r
  · rw [e1]
    rw [e2] at p5
    exact post_val hs3 p5 hz)
theorem se_pop1 (ho : SE X E o mo) (he : SE X E e me) (m : M1 X o "pop" apos e cpos) : SE X E (.Call (.Attribute o "pop" apos) [e] [] cpos) (dm1 dpop1D mo me) := PE.imp (pe_dpop1 ho he m) (by
  rintro σ H Q ⟨μ, env, s, hv, hs, post⟩
  refine ⟨μ, env, s, hv, hs, (Post.bind post).mono fun x s1 μ1 H1 g1 hs1 p1 v hx => ?_⟩
  obtain ⟨a, rfl, hd, p2⟩ := isDk_ok hs1 hx p1
  refine ⟨a, rfl, hd, μ1, env, s1, hv.grow g1, hs1, (Post.bind p2).mono fun y s2 μ2 H2 g2 hs2 p3 u hy => ?_⟩
  unfold dpop1D at p3
  obtain ⟨b, n, xs, kvs, k, e1, hn, h1, h2, rfl, ec, p4⟩ := cellK hs2 (Rep.grow g2 _ _ hx) hy p3
  cases e1
  rcases val_rep h2 k with ⟨w, d, e1, e2, r⟩ | ⟨e1, e2⟩
  · refine ⟨xs, k, w, h1, rfl, e1, ?_⟩
    simp only [e2] at p4
    obtain ⟨g3, hs3⟩ := put_cell hs2 hn h1 (dropK_rep (k := k) h2)
    exact p4 _ _ g3 hs3 _ (Rep.grow g3 _ _ r)
  · simp only [e2] at p4
    exact (show False from p4).elim)
theorem se_pop2 (ho : SE X E o mo) (he : SE X E e me) (hf : SE X E f mf) (m : M2 X o "pop" apos e f cpos) : SE X E (.Call (.Attribute o "pop" apos) [e, f] [] cpos) (dm2 dpop2D mo me mf) := PE.imp (pe_dpop2 ho he hf m) (by
  rintro σ H Q ⟨μ, env, s, hv, hs, post⟩
  refine ⟨μ, env, s, hv, hs, (Post.bind post).mono fun x s1 μ1 H1 g1 hs1 p1 v hx => ?_⟩
  obtain ⟨a, rfl, hd, p2⟩ := isDk_ok hs1 hx p1
  refine ⟨a, rfl, hd, μ1, env, s1, hv.grow g1, hs1, (Post.bind p2).mono fun y s2 μ2 H2 g2 hs2 p3 u hy => ⟨μ2, env, s2, (hv.grow g1).grow g2, hs2, (Post.bind p3).mono fun z s3 μ3 H3 g3 hs3 p4 w hz => ?_⟩⟩
  unfold dpop2D at p4
  obtain ⟨b, n, xs, kvs, k, e1, hn, h1, h2, rfl, ec, p5⟩ := cellK hs3 (Rep.grow (g2.trans g3) _ _ hx) (Rep.grow g3 _ _ hy) p4
  cases e1
  refine ⟨xs, k, h1, rfl, fun v hv1 => ?_, fun hv1 => ?_⟩
  · rcases val_rep h2 k with ⟨w2, d, e1, e2, r⟩ | ⟨e1, e2⟩
    · rw [e1] at hv1
      cases hv1
      simp only [e2] at p5
      obtain ⟨g4, hs4⟩ := put_cell hs3 hn h1 (dropK_rep (k := k) h2)
      exact p5 _ _ g4 hs4 _ (Rep.grow g4 _ _ r)
    · rw [e1] at hv1
      cases hv1
  · rcases val_rep h2 k with ⟨w2, d, e1, e2, r⟩ | ⟨e1, e2⟩
    · rw [e1] at hv1
      cases hv1
    · simp only [e2] at p5
      exact post_val hs3 p5 hz)
end
/-! ### dict(d), a copy -/
def dictD (x : D) : M D := match x with
  | .ptr n => fun s => match s[n]? with
    | some (.dK kvs) => allocC (.dK kvs) s
    | _ => .stuck
  | _ => stuck
/-! ### sorted(d) of texts -/
def ltS (a b : Str) : Bool := decide (a.cps.toList < b.cps.toList)
def insS (p : Str) : List Str → List Str
  | [] => [p]
  | q :: r => if ltS q p = true then q :: insS p r else p :: q :: r
def sortS : List Str → List Str
  | [] => []
  | p :: r => insS p (sortS r)
def keyStr : Key × D → Option Str
  | (.inr x, _) => some x
  | _ => none
def kStrs : List (Key × D) → Option (List Str) := mapO keyStr
def sortedD (x : D) : M D := match x with
  | .ptr n => fun s => match s[n]? with
    | some (.dK kvs) => (match kStrs kvs with
      | some ks => if ks.length < 64 then .ok (.vls ((sortS ks).map D.str)) s else .stuck
      | none => .stuck)
    | _ => .stuck
  | _ => stuck
theorem insS_perm (p : Str) : ∀ l : List Str, (insS p l).Perm (p :: l)
  | [] => List.Perm.refl _
  | q :: r => by
    unfold insS
    split
    · exact ((insS_perm p r).cons q).trans (List.Perm.swap _ _ _)
    · exact List.Perm.refl _
theorem sortS_perm : ∀ l : List Str, (sortS l).Perm l
  | [] => List.Perm.refl _
  | p :: r => (insS_perm p _).trans ((sortS_perm r).cons p)
end PL

/-! PL12: instances of own classes: attributes, methods, making. -/
namespace PL
open PySem PySem.Spec PyProof.Rows L2
def putFD (f : Str) (v : D) : List (Str × D) → List (Str × D)
  | [] => [(f, v)]
  | (g, x) :: r => if g = f then (g, v) :: r else (g, x) :: putFD f v r
theorem cell_ins {K : PySem.W.Frag} {μ : Mu} {H : Hp} {s : S} {n : Nat} {a : Addr} {C : Str} {fs : List (Str × D)} (hs : SimS K μ H s) (ha : μ.c[n]? = some a) (e : s[n]? = some (.ins C fs)) : ∃ c dx xs, ClsAt K C c ∧ H a = some (.ins c dx xs) ∧ RepK K μ H xs fs := by
  obtain ⟨b, hb, hc⟩ := hs.cell n _ e
  rw [ha] at hb
  cases hb
  exact hc
theorem look_rep {K : PySem.W.Frag} {μ : Mu} {H : Hp} {f : Str} : ∀ {xs : List (Str × V)} {ds : List (Str × D)}, RepK K μ H xs ds → (xs.lookup f = none ∧ ds.lookup f = none) ∨ ∃ v d, xs.lookup f = some v ∧ ds.lookup f = some d ∧ Rep K μ H v d
  | [], [], _ => .inl ⟨rfl, rfl⟩
  | [], q :: ds, h => by have := h.1; simp at this
  | p :: xs, [], h => by have := h.1; simp at this
  | (g, v) :: xs, (g', d) :: ds, ⟨h1, h2⟩ => by
    rw [List.map_cons, List.map_cons] at h1 h2
    obtain rfl : g = g' := (List.cons.inj h1).1
    cases h2 with
    | cons r t =>
      by_cases hk : f = g
      · have hb : (f == g) = true := beq_iff_eq.mpr hk
        exact .inr ⟨v, d, by simp only [List.lookup, hb], by simp only [List.lookup, hb], r⟩
      · have hb : (f == g) = false := beq_eq_false_iff_ne.mpr hk
        rcases look_rep (f := f) ⟨(List.cons.inj h1).2, t⟩ with ⟨e1, e2⟩ | ⟨v', d', e1, e2, r'⟩
        · exact .inl ⟨by simp only [List.lookup, hb]; exact e1, by simp only [List.lookup, hb]; exact e2⟩
        · exact .inr ⟨v', d', by simp only [List.lookup, hb]; exact e1, by simp only [List.lookup, hb]; exact e2, r'⟩
theorem putF_rep {K : PySem.W.Frag} {μ : Mu} {H : Hp} {f : Str} {v : V} {d : D} (r0 : Rep K μ H v d) : ∀ {xs : List (Str × V)} {ds : List (Str × D)}, RepK K μ H xs ds → RepK K μ H (putF f v xs) (putFD f d ds)
  | [], [], _ => ⟨rfl, .cons r0 .nil⟩
  | [], q :: ds, h => by have := h.1; simp at this
  | p :: xs, [], h => by have := h.1; simp at this
  | (g, v') :: xs, (g', d') :: ds, ⟨h1, h2⟩ => by
    rw [List.map_cons, List.map_cons] at h1 h2
    obtain rfl : g = g' := (List.cons.inj h1).1
    cases h2 with
    | cons r t =>
      unfold putF putFD
      by_cases hk : g = f
      · rw [if_pos hk, if_pos hk]
        refine ⟨?_, ?_⟩
        · rw [List.map_cons, List.map_cons, (List.cons.inj h1).2]
        · rw [List.map_cons, List.map_cons]
          exact .cons r0 t
      · rw [if_neg hk, if_neg hk]
        obtain ⟨i1, i2⟩ := putF_rep r0 (f := f) ⟨(List.cons.inj h1).2, t⟩
        refine ⟨?_, ?_⟩
        · rw [List.map_cons, List.map_cons, i1]
        · rw [List.map_cons, List.map_cons]
          exact .cons r i2
/-- what is done with an instance of the class at C -/
def withI {α : Type} (C : Str) (x : D) (F : List (Str × D) → Nat → M α) : M α := match x with
  | .ptr n => fun s => match s[n]? with
    | some (.ins C' fs) => if C' = C then F fs n s else .stuck
    | _ => .stuck
  | _ => stuck
def fldD (C : Str) (f : Str) (x : D) : M D := withI C x fun fs _ s => match fs.lookup f with
  | some d => .ok d s
  | none => .stuck
def setF (C : Str) (f : Str) (v x : D) : M Unit := withI C x fun fs n s => if fs.length < 1000 then .ok () (s.set n (.ins C (putFD f v fs))) else .stuck
/-- o.f = v -/
def fldS (C : Str) (f : Str) (mv mo : Env → M D) (env : Env) : M Out := mv env >>= fun v => mo env >>= fun x => setF C f v x >>= fun _ => pure (.nx env)
def noF (C : Str) (m : Str) (x : D) : M Unit := withI C x fun fs _ s => if fs.lookup m = none then .ok () s else .stuck
def methI (C : Str) (m : Str) (n : Nat) (F : List D → M D) (mo : Env → M D) (ma : Env → M (List D)) (env : Env) : M D := mo env >>= fun x => noF C m x >>= fun _ => ma env >>= fun ds => lenM n F (x :: ds)
def makeI (C : Str) (n : Nat) (F : List D → M D) (ma : Env → M (List D)) (env : Env) : M D := ma env >>= fun ds => allocC (.ins C []) >>= fun x => lenM n F (x :: ds) >>= fun r => match r with
  | .non => pure x
  | _ => stuck
instance (o : Option D) : Decidable (o = none) := match o with
  | none => isTrue rfl
  | some _ => isFalse fun h => by cases h
section
variable {X : Cx} {E : XK}
theorem withI_ok {K : PySem.W.Frag} {α : Type} {C : Str} {cA : Addr} (hC : ClsAt K C cA) {μ : Mu} {H : Hp} {s : S} {x : D} {v : V} {F : List (Str × D) → Nat → M α} {q : α → S → Mu → Hp → Prop} (hs : SimS K μ H s) (hx : Rep K μ H v x) (post : Post K E μ H (withI C x F s) q) :
    ∃ a n dx xs fs, x = .ptr n ∧ v = .ref a ∧ μ.c[n]? = some a ∧ H a = some (.ins cA dx xs) ∧ RepK K μ H xs fs ∧ s[n]? = some (.ins C fs) ∧ Post K E μ H (F fs n s) q := by
  unfold withI at post
  cases hx with
  | @ptr a n hn =>
    simp only [] at post
    cases ec : s[n]? with
    | none => simp only [ec] at post; exact (show False from post).elim
    | some cl =>
      simp only [ec] at post
      cases cl with
      | ins C' fs =>
        simp only [] at post
        split at post
        · rename_i e
          subst e
          obtain ⟨c, dx, xs, hc, h1, h2⟩ := cell_ins hs hn ec
          rw [hc.inj hC] at h1
          exact ⟨a, n, dx, xs, fs, rfl, rfl, hn, h1, h2, ec, post⟩
        · exact (show False from post).elim
      | lst ds => exact (show False from post).elim
      | dK kvs => exact (show False from post).elim
      | dT kvs => exact (show False from post).elim
      | dN kvs => exact (show False from post).elim
      | fN kvs => exact (show False from post).elim
      | fK kvs => exact (show False from post).elim
  | _ => exact (show False from post).elim
theorem se_fld {C : Str} {cA : Addr} (hC : ClsAt X.K C cA) {f : Str} {e : Expr} {me : Env → M D} {pos : Pos} (c : Cls X.K cA) (na : NoAttr X.K cA f) (he : SE X E e me) (hb : attributeBase e f X.env (eval e X.env) = eval e X.env := by rfl) : SE X E (.Attribute e f pos) (unM (fldD C f) me) := PE.imp (pe_fld he hb) (by
  rintro σ H Q ⟨μ, env, s, hv, hs, post⟩
  refine ⟨μ, env, s, hv, hs, (Post.bind post).mono fun x s1 μ1 H1 g1 hs1 p1 v hx => ?_⟩
  obtain ⟨a, n, dx, xs, fs, rfl, rfl, hn, h1, h2, ec, p2⟩ := withI_ok hC hs1 hx p1
  rcases look_rep (f := f) h2 with ⟨e1, e2⟩ | ⟨w, d, e1, e2, r⟩
  · simp only [e2] at p2
    exact (show False from p2).elim
  · simp only [e2] at p2
    exact ⟨a, cA, dx, xs, w, rfl, h1, c, na, e1, post_val hs1 p2 r⟩)
theorem ss_fld {C : Str} {cA : Addr} (hC : ClsAt X.K C cA) {f : Str} {o value : Expr} {mo mv : Env → M D} {pos pos' : Pos} (c : Cls X.K cA) (na : NoAttr X.K cA f) (ho : SE X E o mo) (hv : SE X E value mv) (hsw : swapsWith value (some (.Attribute o f pos')) pos.line X.env = pure false := by rfl) :
    SS X E (.Assign [.Attribute o f pos'] value pos) (fldS C f mv mo) := PS.imp (ps_fld ho hv hsw) (by
  rintro Dd σ H ⟨μ, env, s, hv, hs, post⟩
  refine ⟨μ, env, s, hv, hs, (Post.bind post).mono fun v s1 μ1 H1 g1 hs1 p1 y hy => ⟨μ1, env, s1, hv.grow g1, hs1, (Post.bind p1).mono fun x s2 μ2 H2 g2 hs2 p2 u hx => ?_⟩⟩
  obtain ⟨a, n, dx, xs, fs, rfl, rfl, hn, h1, h2, ec, p3⟩ := withI_ok hC hs2 hx (Post.bind p2)
  by_cases hz : fs.length < 1000
  · simp only [hz, if_true] at p3
    have hm : Mut (H2 a) := by rw [h1]; trivial
    have r := putF_rep (f := f) (Rep.grow g2 _ _ hy) h2
    have g := grow_put (μ := μ2) (H := H2) (a := a) (o := .ins cA dx (putF f y xs)) hm (List.mem_of_getElem? hn)
    have hs3 : SimS X.K μ2 (upd H2 a (.ins cA dx (putF f y xs))) (s2.set n (.ins C (putFD f v fs))) := hs2.put hn hm ⟨cA, dx, _, hC, upd_same, r.grow g⟩
    refine ⟨a, cA, dx, xs, rfl, h1, c, na, by rw [h2.length]; exact hz, ?_⟩
    have p4 := p3 _ _ g hs3
    exact Post.now (a := Out.nx env) p4 hs3 _ (((hv.grow g1).grow g2).grow g)
  · simp only [hz, if_false] at p3
    exact (show False from p3).elim)
theorem te_meth2 {K : PySem.W.Frag} {C : Str} {cA : Addr} (hC : ClsAt K C cA) {m : Str} {n : Nat} {F : List D → M D} {mo : Env → M D} {ma : Env → M (List D)} : ∀ σ H Q, TEof K E (methI C m n F mo ma) σ H Q → tMeth cA m (spM K n F) [] E (TEof K E mo) (TAof K E ma) σ H Q := by
  rintro σ H Q ⟨μ, env, s, hv, hs, post⟩
  refine ⟨μ, env, s, hv, hs, (Post.bind post).mono fun x s1 μ1 H1 g1 hs1 p1 v hx => ?_⟩
  obtain ⟨a, j, dx, xs, fs, rfl, rfl, hn, h1, h2, ec, p2⟩ := withI_ok hC hs1 hx (Post.bind p1)
  by_cases hz : fs.lookup m = none
  · have hx2 : xs.lookup m = none := by
      rcases look_rep (f := m) h2 with ⟨e1, _⟩ | ⟨_, _, _, e2, _⟩
      · exact e1
      · rw [hz] at e2
        cases e2
    simp only [hz, if_true] at p2
    have p3 := Post.now (a := ()) p2 hs1
    refine ⟨a, dx, xs, rfl, h1, hx2, μ1, env, s1, hv.grow g1, hs1, (Post.bind p3).mono fun ds s2 μ2 H2 g2 hs2 p4 vs hl => ?_⟩
    unfold lenM at p4
    split at p4
    · rename_i hn2
      rw [List.append_nil]
      exact ⟨μ2, s2, _, hs2, .cons (Rep.grow g2 _ _ hx) hl, hn2, p4⟩
    · exact (show False from p4).elim
  · simp only [hz, if_false] at p2
    exact (show False from p2).elim
theorem se_methI {CX : CXT} {k n : Nat} {C : Str} {cA fa : Addr} (hC : ClsAt X.K C cA) {fd : FuncData} {ps : List Str} {F : List D → M D} {m : Str} {o e : Expr} {es : List Expr} {mo : Env → M D} {ma : Env → M (List D)} {apos pos : Pos} {pl : Sem Bool} (ho : SE X E o mo) (c : Cls X.K cA) (hm : Meth X.K cA m fa) (G : FnOk X.prog X.w X.K X.mg X.base CX k fa fd ps (spM X.K n F)) (hr : Room k X.A) (hb : Binds X.K fd ps []) (hx : Passes CX X E) (ha : SA X E (e :: es) ma)
    (hst : starEach (e :: es) X.env = (false, eval e X.env) :: starEach es X.env := by rfl) (hpl : (backTo pos (starEach es X.env)).any (·.1) = false := by rfl)
    (ht : eval (.Call (.Attribute o m apos) (e :: es) [] pos) X.env = (do
      let ov ← eval o X.env
      standAt apos.atName
      let (f, first) ← holding [ov] (getMethod ov m pl)
      callWith pos f first (backTo pos (starEach (e :: es) X.env)) (backToKw pos (keywordEach [] X.env))) := by rfl) : SE X E (.Call (.Attribute o m apos) (e :: es) [] pos) (methI C m n F mo ma) := PE.imp (pe_meth ho c hm G hr hb .nil hx ha hst hpl ht) (te_meth2 hC)
theorem se_methI0 {CX : CXT} {k n : Nat} {C : Str} {cA fa : Addr} (hC : ClsAt X.K C cA) {fd : FuncData} {ps : List Str} {F : List D → M D} {m : Str} {o : Expr} {mo : Env → M D} {apos pos : Pos} {pl : Sem Bool} (ho : SE X E o mo) (c : Cls X.K cA) (hm : Meth X.K cA m fa) (G : FnOk X.prog X.w X.K X.mg X.base CX k fa fd ps (spM X.K n F)) (hr : Room k X.A) (hb : Binds X.K fd ps []) (hx : Passes CX X E)
    (ht : eval (.Call (.Attribute o m apos) [] [] pos) X.env = (do
      let ov ← eval o X.env
      standAt apos.atName
      let (f, first) ← holding [ov] (getMethod ov m pl)
      callWith pos f first (backTo pos (starEach [] X.env)) (backToKw pos (keywordEach [] X.env))) := by rfl) : SE X E (.Call (.Attribute o m apos) [] [] pos) (methI C m n F mo nilA) := PE.imp (pe_meth0 ho c hm G hr hb .nil hx ht) (by
  intro σ H Q h
  obtain ⟨μ, env, s, hv, hs, q⟩ := te_meth2 hC σ H Q h
  refine ⟨μ, env, s, hv, hs, q.mono fun x s1 μ1 H1 g1 hs1 p v hx => ?_⟩
  obtain ⟨a, dx, xs, e1, h1, h2, μ2, env2, s2, hv2, hs2, p2⟩ := p v hx
  exact ⟨a, dx, xs, e1, h1, h2, Post.now (a := ([] : List D)) p2 hs2 [] .nil⟩)
theorem te_make {K : PySem.W.Frag} {C : Str} {cA : Addr} (hC : ClsAt K C cA) {n : Nat} {F : List D → M D} {ma : Env → M (List D)} : ∀ σ H Q, TEof K E (makeI C n F ma) σ H Q → tMake cA (spM K n F) [] E (TAof K E ma) σ H Q := by
  rintro σ H Q ⟨μ, env, s, hv, hs, post⟩
  refine ⟨μ, env, s, hv, hs, (Post.bind post).mono fun ds s1 μ1 H1 g1 hs1 p1 vs hl x dx hx hdx hne => ?_⟩
  have g2 : Grow μ1 H1 μ1 (upd H1 dx (.own x)) := grow_new hdx
  have hs2 : SimS K μ1 (upd H1 dx (.own x)) s1 := hs1.lay hdx
  have hx2 : upd H1 dx (.own x) x = none := by rw [upd_ne (Ne.symm hne)]; exact hx
  have g3 : Grow μ1 (upd H1 dx (.own x)) (μ1.add x) (upd (upd H1 dx (.own x)) x (.ins cA dx [])) := grow_cell hx2
  have hs3 : SimS K (μ1.add x) (upd (upd H1 dx (.own x)) x (.ins cA dx [])) (s1 ++ [.ins C []]) := hs2.alloc hx2 ⟨cA, dx, [], hC, upd_same, rfl, .nil⟩
  have hat : (μ1.add x).c[s1.length]? = some x := add_at hs1
  have p2 : Post K E (μ1.add x) (upd (upd H1 dx (.own x)) x (.ins cA dx [])) ((lenM n F (.ptr s1.length :: ds) >>= fun r => match r with
      | .non => pure (.ptr s1.length)
      | _ => stuck) (s1 ++ [.ins C []])) (okD K Q) := Post.later (g2.trans g3) p1
  have p3 := Post.bind p2
  unfold lenM at p3
  split at p3
  · rename_i hn
    rw [List.append_nil]
    refine ⟨_, _, _, hs3, .cons (.ptr hat) (RepL.grow (g2.trans g3) _ _ hl), hn, p3.mono fun r s4 μ4 H4 g4 hs4 p4 v hv4 => ?_⟩
    cases hv4 with
    | non => exact ⟨rfl, Post.now (a := D.ptr s1.length) p4 hs4 _ (.ptr (g4.at hat))⟩
    | _ => exact (show False from p4).elim
  · exact (show False from p3).elim
theorem se_make {CX : CXT} {k n : Nat} {C : Str} {cA fa : Addr} (hC : ClsAt X.K C cA) {fd : FuncData} {ps : List Str} {F : List D → M D} {x : Str} {e : Expr} {es : List Expr} {ma : Env → M (List D)} {p pos : Pos} (Mm : Mk X.K cA fa) (G : FnOk X.prog X.w X.K X.mg X.base CX k fa fd ps (spM X.K n F)) (hr : Room (k + 1) X.A) (hg : Gl X x) (hm : X.mg x = some (.ref cA)) (hb : Binds X.K fd ps []) (hx : Passes CX X E)
    (ha : SA X E (e :: es) ma) (hdb : (x == ("__debug__" : Str)) = false := by decide) (he : starEach (e :: es) X.env = (false, eval e X.env) :: starEach es X.env := by rfl) (hpl : (backTo pos (starEach es X.env)).any (·.1) = false := by rfl) :
    SE X E (.Call (.Name x p) (e :: es) [] pos) (makeI C n F ma) := PE.imp (pe_make Mm G hr hg hm hb .nil hx ha hdb he hpl) (te_make hC)
end
end PL

namespace PL
open PySem PySem.Spec PyProof.Rows L2
theorem units66 {k : Nat} {A : Around} (r : Room k A) : A.units + 65 < cLine := by have := r.un; omega
end PL

/-! PL14: x[::-1] of tuples and lists. -/
namespace PL
open PySem PySem.Spec PyProof.Rows L2 HT
section
variable {prog : Program} {w : World} {A : Around} {E : Value → Shared → Prop} {s : Shared}
theorem adjust_rev (n : Nat) : Builtin.Slice.sliceAdjust none none (-1) (n : Int) = ((n : Int) - 1, -1) := rfl
theorem places_rev (n : Nat) : Builtin.Slice.slicePlaces ((n : Int) - 1) (-1) (-1) = n := by
  unfold Builtin.Slice.slicePlaces
  rw [if_neg (by decide)]
  have h1 : -(-1 : Int) = 1 := rfl
  rw [h1, Int.ediv_one]
  split <;> omega
theorem sliceApplied_rev {sl : Addr} {t : Tok} {n : Nat} {Q : Int × Int × Nat → Shared → Prop} (hs : s.heap.IsSliceOf sl .none .none (.int (-1) t)) (h : Q ((n : Int) - 1, -1, n) s) : wpAny (model prog w) A (Builtin.Slice.sliceApplied (.ref sl) (pure (n : Int))) Q E s := by
  obtain ⟨os, hos, hcs, hds⟩ := id hs
  unfold Builtin.Slice.sliceApplied Builtin.Slice.sliceFields
  refine wpAny_bind (wpAny_bind (wpAny_field hos hds (x := .none) rfl (wpAny_bind (wpAny_field hos hds (x := .none) rfl (wpAny_bind (wpAny_field hos hds (x := .int (-1) t) rfl (wpAny_pure ?_)))))))
  refine wpAny_bind (slicePart_int ?_)
  show wpAny _ _ (if ((-1 : Int) == 0) = true then _ else _) _ _ s
  rw [if_neg (by decide)]
  refine wpAny_bind (slicePart_none (wpAny_bind (slicePart_none (wpAny_bind (wpAny_pure ?_)))))
  show wpAny _ _ (match Builtin.Slice.sliceAdjust none none (-1) (n : Int) with | (lo, hi) => pure (lo, (-1 : Int), Builtin.Slice.slicePlaces lo hi (-1))) _ _ s
  rw [adjust_rev n]
  show wpAny _ _ (pure ((n : Int) - 1, (-1 : Int), Builtin.Slice.slicePlaces ((n : Int) - 1) (-1) (-1))) _ _ s
  rw [places_rev]
  exact wpAny_pure h
theorem range_rev {α : Type} : ∀ l : List α, (List.range l.length).filterMap (fun m => l[l.length - 1 - m]?) = l.reverse := fun l => by
  have e2 : (List.range l.length).map (fun m => l[l.length - 1 - m]?) = l.reverse.map some := by
    refine List.ext_getElem? fun j => ?_
    rw [List.getElem?_map, List.getElem?_map]
    by_cases hj : j < l.length
    · rw [List.getElem?_range hj, List.getElem?_reverse hj]
      show some (l[l.length - 1 - j]?) = (l[l.length - 1 - j]?).map some
      rw [List.getElem?_eq_getElem (by omega)]
      rfl
    · rw [List.getElem?_eq_none (by rw [List.length_range]; omega), List.getElem?_eq_none (by rw [List.length_reverse]; omega)]
      rfl
  have e3 : (List.range l.length).filterMap (fun m => l[l.length - 1 - m]?) = ((List.range l.length).map (fun m => l[l.length - 1 - m]?)).filterMap id := by
    rw [List.filterMap_map]
    rfl
  rw [e3, e2, List.filterMap_map]
  show (l.reverse.filterMap fun a => some a) = _
  rw [List.filterMap_some]
theorem pick_rev (xs : Array Value) : ((List.range xs.size).filterMap fun (m : Nat) => xs[(((xs.size : Int) - 1) + (m : Int) * (-1)).toNat]?).toArray = xs.toList.reverse.toArray := by
  obtain ⟨l⟩ := xs
  congr 1
  show ((List.range l.length).filterMap fun (m : Nat) => (⟨l⟩ : Array Value)[(((l.length : Int) - 1) + (m : Int) * (-1)).toNat]?) = l.reverse
  rw [← range_rev l]
  have : (fun (m : Nat) => (⟨l⟩ : Array Value)[(((l.length : Int) - 1) + (m : Int) * (-1)).toNat]?) = fun m => l[l.length - 1 - m]? := by
    funext m
    rw [show (((l.length : Int) - 1) + (m : Int) * (-1)).toNat = l.length - 1 - m by omega]
    simp
  rw [this]
theorem getItem_tuple_rev {t sl : Addr} {tk : Tok} {items : Array Value} {Q : Value → Shared → Prop} (ht : IsTup s.heap t items) (hs : s.heap.IsSliceOf sl .none .none (.int (-1) tk))
    (h : Q (.ref s.heap.objs.size) { s with heap := s.heap.push { cls := .type "tuple", data := .seq items.toList.reverse.toArray } })
    (hsz : items.size ≤ sizeLine) : wpAny (model prog w) A (getItem (.ref t) (.ref sl)) Q E s := by
  have htake : sizeOk (.seq items.toList.reverse.toArray) := by
    show items.toList.reverse.toArray.size ≤ sizeLine
    rw [List.size_toArray, List.length_reverse, Array.length_toList]
    exact hsz
  obtain ⟨os, hos, hcs, hds⟩ := id hs
  have hTs : s.TypeIs (.ref sl) "slice" := ⟨os, hos, hcs⟩
  unfold getItem
  try with_reducible refine wpAny_holding ?_
  first | refine wpAny_bind (wpAny_pure ?_) | skip
  refine wpAny_bind (wpAny_sequenceKey ht.typeIs (by decide) ?_)
  refine wpAny_bind (wpAny_callSpecial?_slot (name := Str.ofString "__getitem__") ht.typeIs PyProof.Rows.slot_tuple_getitem
    (wpAny_call_entry PyProof.Rows.slot_tuple_getitem ht.typeIs entry_tuple_getitem ?_ (args_tuple_getitem _ _)))
  show wpAny _ _ (Builtin.Tuple.tupleItemsOf (.ref t) >>= _) _ _ s
  refine wpAny_bind (tupleItemsOf_ ht ?_)
  refine wpAny_bind (wpAny_typeOf hTs ?_)
  rw [if_pos (by decide)]
  refine wpAny_bind (sliceApplied_rev hs ?_)
  have hno : ¬ ((((items.size : Int) - 1) == 0 && (-1 : Int) == 1 && items.size == items.size) = true) := by
    intro q
    rw [Bool.and_eq_true, Bool.and_eq_true] at q
    exact absurd (eq_of_beq q.1.2) (by decide)
  show wpAny _ _ (if (((items.size : Int) - 1) == 0 && (-1 : Int) == 1 && items.size == items.size) = true then _ else _) _ _ s
  rw [if_neg hno, pick_rev]
  first
    | exact wpAny_bind (m := Builtin.Tuple.tupleExact _) (wpAny_newObj_type (wpAny_pure ⟨_, rfl, wpAny_pure h⟩) htake)
    | exact wpAny_bind (m := Builtin.Tuple.tupleExact _) (wpAny_newObj_type (wpAny_bind (wpAny_pure (wpAny_pure ⟨_, rfl, wpAny_pure h⟩))) htake)
    | exact wpAny_bind (wpAny_bind (m := Builtin.Tuple.tupleExact _) (wpAny_newObj_type (wpAny_pure (wpAny_pure ⟨_, rfl, wpAny_pure h⟩)) htake))
    | exact wpAny_bind (wpAny_bind (m := Builtin.Tuple.tupleExact _) (wpAny_newObj_type (wpAny_pure ⟨_, rfl, wpAny_pure h⟩) htake))
end
section
variable {X : Cx} {E : XK}
theorem vals_rev : ∀ {xs : List V} {us : List Value}, Vals xs us → Vals xs.reverse us.reverse
  | _, _, .nil => .nil
  | _, _, .cons h t => by
    rw [List.reverse_cons, List.reverse_cons]
    exact (vals_rev t).append (.cons h .nil)
def tRevT (K : PySem.W.Frag) (te : TE) : TE := fun σ H Q => te σ H fun x H1 => ∃ a xs, x = .ref a ∧ SqT K H1 a xs ∧ ∀ p, H1 p = none → Q (.ref p) (upd H1 p (.tup xs.reverse))
theorem pe_revT {e : Expr} {te : TE} {k : Nat} {p1 p2 p3 pos : Pos} (he : PE X e te) : PE X (.Subscript e (.Slice none none (some (.UnaryOp .USub (.Constant (.int 1) k p1) p2)) p3) pos) (tRevT X.K te) := by
  refine ⟨fun pins s σ H Q I h => ?_⟩
  refine Subscript_ (thn (he.run pins s σ H _ I h) fun v s1 ⟨x, H1, I1, r1, q1⟩ => ?_)
  obtain ⟨a, xs, ex, hx, q⟩ := q1
  subst ex
  cases r1
  have hst : PO X (some (.UnaryOp .USub (.Constant (.int 1) k p1) p2)) (tPart (tUn (rU fun i => .int (-i)) (tC (.int 1)))) := po_some (pe_un un_neg pe_int)
  refine wpAny_Slice (thn (po_none.run pins s1 σ H1 (fun o H2 => o = none ∧ H2 = H1) I1 ⟨rfl, rfl⟩) fun vl s2 ⟨l, H2, I2, pl, el, e2⟩ => ?_)
  subst el e2
  refine thn (po_none.run pins s2 σ H2 (fun o H3 => o = none ∧ H3 = H2) I2 ⟨rfl, rfl⟩) fun vu s3 ⟨u, H3, I3, pu, eu, e3⟩ => ?_
  subst eu e3
  refine thn (hst.run pins s3 σ H3 (fun o H4 => o = some (-1) ∧ H4 = H3) I3 ⟨1, rfl, -1, rfl, rfl, rfl⟩) fun vs s4 ⟨o, H4, I4, ps, eo, e4⟩ => ?_
  subst eo e4
  have I5 : Inv X pins σ H4 { s4 with heap := s4.heap.push { cls := .type "slice", data := .fields #[vl, vu, vs] } } := I4.kept (t' := s4.toks) fun b ob q => Heap.get?_push_of_some _ q
  obtain ⟨its, r, ht, hz⟩ := I5.tuple hx
  show wpAny (model X.prog X.w) X.A (subscriptTail e (.Slice none none (some (.UnaryOp .USub (.Constant (.int 1) k p1) p2)) p3) (.ref a) (.ref s4.heap.objs.size)) (EP X pins σ Q) X.xe { s4 with heap := s4.heap.push { cls := .type "slice", data := .fields #[vl, vu, vs] } }
  cases pl
  cases pu
  cases ps with
  | int i tk =>
  refine tail_any (ops := [.ref a, .ref s4.heap.objs.size]) ht.typeIs PyProof.Rows.slot_tuple_getitem.lookup ?_ (by with_unfolding_all rfl)
  refine getItem_tuple_rev ht (Heap.IsSliceOf.new _ _ _ _) ?_ (by rw [List.size_toArray, ← r.length]; exact hz)
  refine ⟨.ref _, _, I5.laid (t' := s4.toks) (o := .tup xs.reverse) (fun b ob q => Heap.get?_push_of_some _ q) (Nat.le_refl _) ?_, rfl, q _ (I5.hok.fresh (Nat.le_refl _))⟩
  exact ⟨by rw [List.length_reverse]; exact hz, its.reverse, vals_rev r, IsTup.new _ _⟩
def revD (x : D) : M D := match x with
  | .tup ds => pure (.tup ds.reverse)
  | .flst ds => pure (.vls ds.reverse)
  | .vls ds => pure (.vls ds.reverse)
  | .ptr n => fun s => match s[n]? with
    | some (.lst ds) => .ok (.vls ds.reverse) s
    | _ => .stuck
  | _ => stuck
theorem rev_rep {K : PySem.W.Frag} {μ : Mu} {H : Hp} : ∀ {xs : List V} {ds : List D}, RepL K μ H xs ds → RepL K μ H xs.reverse ds.reverse
  | _, _, .nil => .nil
  | _, _, .cons h t => by
    rw [List.reverse_cons, List.reverse_cons]
    exact RepL.snoc h (rev_rep t)
theorem se_rev {e : Expr} {me : Env → M D} {k : Nat} {p1 p2 p3 pos : Pos} (he : SE X E e me) : SE X E (.Subscript e (.Slice none none (some (.UnaryOp .USub (.Constant (.int 1) k p1) p2)) p3) pos) (unM revD me) := PE.imp (PE.or (pe_revT he) (pe_revL he)) (by
  rintro σ H Q ⟨μ, env, s, hv, hs, post⟩
  by_cases hd : ∃ ds s1, me env s = .ok (.tup ds) s1
  · obtain ⟨ds, s1, e1⟩ := hd
    refine .inl ⟨μ, env, s, hv, hs, ?_⟩
    have p0 := Post.bind post
    rw [e1] at p0 ⊢
    intro μ1 H1 g1 hs1 v hx
    have p1 := p0 μ1 H1 g1 hs1
    cases hx with
    | @tup a xs ds ht hl => exact ⟨a, xs, rfl, ht, post_tup hs1 (rev_rep hl) p1⟩
  · refine .inr ⟨μ, env, s, hv, hs, ?_⟩
    have p0 := Post.bind post
    cases e1 : me env s with
    | stuck => rw [e1] at p0; exact p0
    | exc c s1 => rw [e1] at p0; exact p0
    | ok x s1 =>
      rw [e1] at p0
      intro μ1 H1 g1 hs1 v hx
      have p1 := p0 μ1 H1 g1 hs1
      unfold revD at p1
      cases hx with
      | @tup a xs ds ht hl => exact (hd ⟨ds, s1, e1⟩).elim
      | @flst a xs ds ht hl => exact ⟨a, xs, rfl, ht.sqL, post_vls hs1 (rev_rep hl) p1⟩
      | @vls a xs ds ht hl => exact ⟨a, xs, rfl, ht.sqL, post_vls hs1 (rev_rep hl) p1⟩
      | @ptr a n hn =>
        simp only [] at p1
        cases ec : s1[n]? with
        | none => simp only [ec] at p1; exact (show False from p1).elim
        | some c =>
          simp only [ec] at p1
          cases c with
          | lst ds =>
            obtain ⟨xs, h1, hl⟩ := cell_lst hs1 hn ec
            exact ⟨a, xs, rfl, SqL.of h1, post_vls hs1 (rev_rep hl) p1⟩
          | dK kvs => exact (show False from p1).elim
          | dT kvs => exact (show False from p1).elim
          | dN kvs => exact (show False from p1).elim
          | fN kvs => exact (show False from p1).elim
          | ins C fs => exact (show False from p1).elim
          | fK kvs => exact (show False from p1).elim
      | _ => exact (show False from p1).elim)
end
end PL

/-! PL15: xs.pop(); sorted of a list of pairs of integers. -/
namespace PL
open PySem PySem.Spec PyProof.Rows L2
def lpopD (x : D) : M D := match x with
  | .ptr n => fun s => match s[n]? with
    | some (.lst ds) => (match ds[ds.length - 1]? with
      | some d => .ok d (s.set n (.lst ds.dropLast))
      | none => .stuck)
    | _ => .stuck
  | _ => stuck
section
variable {X : Cx} {E : XK} {o e : Expr} {mo me : Env → M D} {apos cpos p pos : Pos}
theorem RepL.dropLast {K : PySem.W.Frag} {μ : Mu} {H : Hp} : ∀ {xs : List V} {ds : List D}, RepL K μ H xs ds → RepL K μ H xs.dropLast ds.dropLast
  | _, _, .nil => .nil
  | _, _, .cons h .nil => .nil
  | _, _, .cons h (.cons h2 t) => .cons h (RepL.dropLast (.cons h2 t))
theorem se_lpop (ho : SE X E o mo) (hbase : attributeBase o "pop" X.env (eval o X.env) = eval o X.env := by rfl) (hline : (apos.endLine == cpos.line) = true := by rfl) : SE X E (.Call (.Attribute o "pop" apos) [] [] cpos) (unM lpopD mo) := PE.imp (pe_bm0 PySem.F.plainAttrs_list PySem.F.slot_list_pop PySem.F.type_list_pop mt_pop ho hbase hline) (by
  rintro σ H Q ⟨μ, env, s, hv, hs, post⟩
  refine ⟨μ, env, s, hv, hs, (Post.bind post).mono fun x s1 μ1 H1 g1 hs1 p1 v hx => ?_⟩
  unfold lpopD at p1
  cases hx with
  | @ptr a n hn =>
    simp only [] at p1
    cases ec : s1[n]? with
    | none => simp only [ec] at p1; exact (show False from p1).elim
    | some c =>
      simp only [ec] at p1
      cases c with
      | lst ds =>
        obtain ⟨xs, h1, hl⟩ := cell_lst hs1 hn ec
        simp only [] at p1
        cases ed : ds[ds.length - 1]? with
        | none => simp only [ed] at p1; exact (show False from p1).elim
        | some d =>
          simp only [ed] at p1
          obtain ⟨w, hw, r⟩ := hl.get ed
          rw [← hl.length] at hw
          exact ⟨.inl ⟨rfl, xs, SqL.of h1⟩, a, xs, w, rfl, rfl, h1, hw, put_lst hs1 hn h1 (RepL.dropLast hl) r p1⟩
      | dK kvs => exact (show False from p1).elim
      | dT kvs => exact (show False from p1).elim
      | dN kvs => exact (show False from p1).elim
      | fN kvs => exact (show False from p1).elim
      | ins C fs => exact (show False from p1).elim
      | fK kvs => exact (show False from p1).elim
  | _ => exact (show False from p1).elim)
/-! ### sorted(xs), pairs of integers -/
def rSortedPQ (K : PySem.W.Frag) : List V → Hp → VK → Prop := fun vs H Q => ∃ (a : Addr) (xs : List V) (ps : List (Int × Int)), vs = [V.ref a] ∧ SqL K H a xs ∧ KeysAt K H xs ps ∧ ∀ ys qs p, qs.Perm ps → qs.Pairwise (fun x y => SrtO.lexB y x = false) → KeysAt K H ys qs → H p = none → Q (.ref p) (upd H p (.lst ys))
theorem keys_pair {pins : List (Addr × Obj)} {σ : L2.St} {H : Hp} {s : Shared} (I : Inv X pins σ H s) : ∀ {xs : List V} {us : List Value} {ps : List (Int × Int)}, KeysAt X.K H xs ps → Vals xs us → us.map (kOf s.heap) = ps ∧ (∀ v ∈ us, Srt.IsPair s.heap v (kOf s.heap v).1 (kOf s.heap v).2) ∧ (∀ v ∈ us, ∃ b, v = .ref b ∧ SqT X.K H b [.int (kOf s.heap v).1, .int (kOf s.heap v).2])
  | _, _, _, .nil, .nil => ⟨rfl, fun _ h => (by cases h), fun _ h => (by cases h)⟩
  | _ :: _, u :: us, q :: ps, .cons h t, .cons r rt => by
    obtain ⟨h1, h2, h3⟩ := keys_pair I t rt
    obtain ⟨b, rfl, hb⟩ := h
    obtain rfl : u = Value.ref b := r
    obtain ⟨its, rv, ⟨o, ho, hc, n, hd⟩, _⟩ := I.tuple hb
    obtain ⟨u1, u2, rfl, ri, rj⟩ := vals2 rv
    obtain ⟨t1, rfl⟩ := ri
    obtain ⟨t2, rfl⟩ := rj
    have pr : Srt.IsPair s.heap (.ref b) q.1 q.2 := ⟨b, o, t1, t2, n, rfl, ho, hc, hd⟩
    have ek := kOf_pair pr
    refine ⟨by rw [List.map_cons, h1, ek], fun v hv => ?_, fun v hv => ?_⟩
    · rcases List.mem_cons.mp hv with rfl | hv
      · rw [ek]; exact pr
      · exact h2 v hv
    · rcases List.mem_cons.mp hv with rfl | hv
      · rw [ek]; exact ⟨b, rfl, hb⟩
      · exact h3 v hv
theorem cr_sortedPQ : CallR X (.builtin "sorted") (rSortedPQ X.K) := by
  intro pins s σ H vs us Q I r h
  obtain ⟨a, xs, ps, rfl, hs, hk, q⟩ := h
  obtain ⟨its, rv, hl, hz⟩ := I.list hs
  obtain ⟨u, rfl, ru⟩ := vals1 r
  obtain rfl : u = Value.ref a := ru
  obtain ⟨h1, h2, h3⟩ := keys_pair I hk rv
  refine SrtO.sorted_pairsO (k := kOf s.heap) hl.isList (by rw [← rv.length]; exact hz) h2 fun h' d out e1 e2 kp hd hn => ?_
  have hm : ∀ v ∈ out, ∃ b, v = .ref b ∧ SqT X.K H b [.int (kOf s.heap v).1, .int (kOf s.heap v).2] := fun v hv => h3 v (e2.perm.mem_iff.mp hv)
  have hkeys : KeysAt X.K H (out.map bkV) (out.map (kOf s.heap)) := by
    clear e1 e2 hn
    induction out with
    | nil => exact .nil
    | cons v out ih =>
      obtain ⟨b, eb, hb⟩ := hm v List.mem_cons_self
      refine .cons ⟨b, by rw [eb]; rfl, hb⟩ (ih fun u hu => hm u (List.mem_cons_of_mem _ hu))
  obtain ⟨n, hn⟩ := hn
  refine ⟨.ref d, upd H d (.lst (out.map bkV)), I.laid (t' := s.toks) kp hd ⟨?_, out, n, bkV_vals fun u hu => (let ⟨b, eb, _⟩ := hm u hu; ⟨b, eb⟩), hn⟩, rfl, q _ (out.map (kOf s.heap)) d ?_ ?_ hkeys (I.hok.fresh hd)⟩
  · rw [List.length_map, e2.perm.length_eq, ← rv.length]
    exact hz
  · rw [← h1]
    exact e2.perm.map _
  · exact List.pairwise_map.mpr e1
def insP (p : Int × Int) : List (Int × Int) → List (Int × Int)
  | [] => [p]
  | q :: r => if SrtO.lexB q p = true then q :: insP p r else p :: q :: r
def sortP : List (Int × Int) → List (Int × Int)
  | [] => []
  | p :: r => insP p (sortP r)
def LeP (x y : Int × Int) : Prop := SrtO.lexB y x = false
theorem LeP.iff {x y : Int × Int} : LeP x y ↔ x.1 < y.1 ∨ (x.1 = y.1 ∧ x.2 ≤ y.2) := by
  unfold LeP
  constructor
  · intro h
    have := SrtO.lexB_no.mp h
    omega
  · intro h
    refine SrtO.lexB_no.mpr ?_
    omega
theorem insP_perm (p : Int × Int) : ∀ l : List (Int × Int), (insP p l).Perm (p :: l)
  | [] => List.Perm.refl _
  | q :: r => by
    unfold insP
    split
    · exact ((insP_perm p r).cons q).trans (List.Perm.swap _ _ _)
    · exact List.Perm.refl _
theorem sortP_perm : ∀ l : List (Int × Int), (sortP l).Perm l
  | [] => List.Perm.refl _
  | p :: r => (insP_perm p _).trans ((sortP_perm r).cons p)
theorem insP_sorted (p : Int × Int) : ∀ l : List (Int × Int), l.Pairwise LeP → (insP p l).Pairwise LeP
  | [], _ => List.pairwise_singleton _ _
  | q :: r, h => by
    obtain ⟨h1, h2⟩ := List.pairwise_cons.mp h
    unfold insP
    split
    · rename_i c
      refine List.pairwise_cons.mpr ⟨fun x hx => ?_, insP_sorted p r h2⟩
      rcases List.mem_cons.mp ((insP_perm p r).mem_iff.mp hx) with rfl | hx
      · have := SrtO.lexB_iff.mp c
        rw [LeP.iff]
        omega
      · exact h1 x hx
    · rename_i c
      have cp : LeP p q := by
        have : SrtO.lexB q p = false := by
          cases hh : SrtO.lexB q p with
          | false => rfl
          | true => exact absurd hh c
        exact this
      refine List.pairwise_cons.mpr ⟨fun x hx => ?_, h⟩
      rcases List.mem_cons.mp hx with rfl | hx
      · exact cp
      · have := h1 x hx
        rw [LeP.iff] at *
        omega
theorem sortP_sorted : ∀ l : List (Int × Int), (sortP l).Pairwise LeP
  | [] => .nil
  | p :: r => insP_sorted p _ (sortP_sorted r)
theorem leP_uniq : ∀ {l m : List (Int × Int)}, l.Pairwise LeP → m.Pairwise LeP → l.Perm m → l = m
  | [], m, _, _, h => (List.Perm.eq_nil h.symm).symm
  | p :: l, m, hl, hm, h => by
    cases m with
    | nil => exact absurd (List.Perm.eq_nil h) (by simp)
    | cons q m =>
      obtain ⟨l1, l2⟩ := List.pairwise_cons.mp hl
      obtain ⟨m1, m2⟩ := List.pairwise_cons.mp hm
      have e : p = q := by
        rcases List.mem_cons.mp (h.mem_iff.mp List.mem_cons_self) with e | hp
        · exact e
        · rcases List.mem_cons.mp (h.mem_iff.mpr (List.mem_cons_self (a := q) (l := m))) with e | hq
          · exact e.symm
          · have a := l1 q hq
            have b := m1 p hp
            rw [LeP.iff] at a b
            exact Prod.ext (by omega) (by omega)
      subst e
      rw [leP_uniq l2 m2 h.cons_inv]
def dPl : List D → Option (List (Int × Int)) := mapO dPr
def sortPD (x : D) : M D := fun s => match seqD s x with
  | some ds => (match dPl ds with
    | some ps => .ok (.vls ((sortP ps).map pD)) s
    | none => .stuck)
  | none => .stuck
theorem dPl_rep {K : PySem.W.Frag} {μ : Mu} {H : Hp} : ∀ {ds : List D} {xs : List V} {ps : List (Int × Int)}, dPl ds = some ps → RepL K μ H xs ds → KeysAt K H xs ps
  | [], _, ps, e, .nil => by
    cases e
    exact .nil
  | d :: r, _, ps, e, .cons h t => by
    unfold dPl mapO at e
    cases q : dPr d with
    | none => rw [q] at e; cases e
    | some p =>
      rw [q] at e
      cases q2 : mapO dPr r with
      | none => rw [q2] at e; cases e
      | some ms =>
        rw [q2] at e
        cases e
        exact .cons (dPr_rep q h) (dPl_rep (ds := r) q2 t)
theorem cr_sortPD : CallR X (.builtin "sorted") (RLof X.K E (fun1 sortPD)) := CallR.imp cr_sortedPQ (rl_1 fun μ s d v H Q hs r post => by
  unfold sortPD at post
  cases e1 : seqD s d with
  | none => simp only [e1] at post; exact (show False from post).elim
  | some ds =>
    cases e2 : dPl ds with
    | none => simp only [e1, e2] at post; exact (show False from post).elim
    | some ps =>
      simp only [e1, e2] at post
      obtain ⟨l, xs, rfl, hq, hl⟩ := seqD_rep hs r e1
      refine ⟨l, xs, ps, rfl, hq, dPl_rep e2 hl, fun ys qs p hp hw hk hn => ?_⟩
      have : qs = sortP ps := leP_uniq hw (sortP_sorted ps) (hp.trans (sortP_perm ps).symm)
      subst this
      exact post_vls hs (keys_rep hk) post p hn)
end
end PL

/-! PL16: sorted of integers, of a dict's texts; all kinds in one. -/
namespace PL
open PySem PySem.Spec PyProof.Rows L2
def insI (p : Int) : List Int → List Int
  | [] => [p]
  | q :: r => if q < p then q :: insI p r else p :: q :: r
def sortI : List Int → List Int
  | [] => []
  | p :: r => insI p (sortI r)
theorem insI_perm (p : Int) : ∀ l : List Int, (insI p l).Perm (p :: l)
  | [] => List.Perm.refl _
  | q :: r => by
    unfold insI
    split
    · exact ((insI_perm p r).cons q).trans (List.Perm.swap _ _ _)
    · exact List.Perm.refl _
theorem sortI_perm : ∀ l : List Int, (sortI l).Perm l
  | [] => List.Perm.refl _
  | p :: r => (insI_perm p _).trans ((sortI_perm r).cons p)
theorem insI_sorted (p : Int) : ∀ l : List Int, l.Pairwise (· ≤ ·) → (insI p l).Pairwise (· ≤ ·)
  | [], _ => List.pairwise_singleton _ _
  | q :: r, h => by
    obtain ⟨h1, h2⟩ := List.pairwise_cons.mp h
    unfold insI
    split
    · refine List.pairwise_cons.mpr ⟨fun x hx => ?_, insI_sorted p r h2⟩
      rcases List.mem_cons.mp ((insI_perm p r).mem_iff.mp hx) with rfl | hx
      · omega
      · exact h1 x hx
    · refine List.pairwise_cons.mpr ⟨fun x hx => ?_, h⟩
      rcases List.mem_cons.mp hx with rfl | hx
      · omega
      · have := h1 x hx
        omega
theorem sortI_sorted : ∀ l : List Int, (sortI l).Pairwise (· ≤ ·)
  | [] => .nil
  | p :: r => insI_sorted p _ (sortI_sorted r)
theorem uniq_by {α : Type} {r : α → α → Prop} (anti : ∀ a b, r a b → r b a → a = b) : ∀ {l m : List α}, l.Pairwise r → m.Pairwise r → l.Perm m → l = m
  | [], m, _, _, h => (List.Perm.eq_nil h.symm).symm
  | p :: l, m, hl, hm, h => by
    cases m with
    | nil => exact absurd (List.Perm.eq_nil h) (by simp)
    | cons q m =>
      obtain ⟨l1, l2⟩ := List.pairwise_cons.mp hl
      obtain ⟨m1, m2⟩ := List.pairwise_cons.mp hm
      have e : p = q := by
        rcases List.mem_cons.mp (h.mem_iff.mp List.mem_cons_self) with e | hp
        · exact e
        · rcases List.mem_cons.mp (h.mem_iff.mpr (List.mem_cons_self (a := q) (l := m))) with e | hq
          · exact e.symm
          · exact anti p q (l1 q hq) (m1 p hp)
      subst e
      rw [uniq_by anti l2 m2 h.cons_inv]
/-! texts -/
def LeS (x y : Str) : Prop := ¬ (y.cps.toList < x.cps.toList)
theorem LeS.trans {x y z : Str} (h : LeS x y) (k : LeS y z) : LeS x z := by
  unfold LeS at *
  exact List.le_trans (l₁ := x.cps.toList) (l₂ := y.cps.toList) (l₃ := z.cps.toList) h k
theorem LeS.anti (x y : Str) (h : LeS x y) (k : LeS y x) : x = y := by
  have e : x.cps.toList = y.cps.toList := List.le_antisymm h k
  obtain ⟨⟨a⟩⟩ := x
  obtain ⟨⟨b⟩⟩ := y
  have e' : a = b := e
  rw [e']
theorem LeS.of_not {x y : Str} (h : ¬ LeS x y) : LeS y x := by
  unfold LeS at *
  intro k
  exact h fun k2 => List.lt_irrefl _ (List.lt_trans k k2)
theorem rising_pw : ∀ (p : Str) (l : List Str), risingS p l = true → (p :: l).Pairwise LeS
  | p, [], _ => List.pairwise_singleton _ _
  | p, x :: r, h => by
    unfold risingS at h
    rw [Bool.and_eq_true] at h
    have ih := rising_pw x r h.2
    have h1 : LeS p x := by
      have := h.1
      rw [ltCps_eq] at this
      unfold LeS
      simpa using this
    refine List.pairwise_cons.mpr ⟨fun y hy => ?_, ih⟩
    rcases List.mem_cons.mp hy with rfl | hy
    · exact h1
    · exact h1.trans ((List.pairwise_cons.mp ih).1 y hy)
theorem sortedS_pw : ∀ l : List Str, sortedS l = true → l.Pairwise LeS
  | [], _ => .nil
  | p :: l, h => rising_pw p l h
theorem insS_sorted (p : Str) : ∀ l : List Str, l.Pairwise LeS → (insS p l).Pairwise LeS
  | [], _ => List.pairwise_singleton _ _
  | q :: r, h => by
    obtain ⟨h1, h2⟩ := List.pairwise_cons.mp h
    unfold insS ltS
    by_cases c : q.cps.toList < p.cps.toList
    · rw [if_pos (decide_eq_true c)]
      refine List.pairwise_cons.mpr ⟨fun x hx => ?_, insS_sorted p r h2⟩
      rcases List.mem_cons.mp ((insS_perm p r).mem_iff.mp hx) with rfl | hx
      · unfold LeS
        intro k
        exact List.lt_irrefl _ (List.lt_trans c k)
      · exact h1 x hx
    · rw [if_neg (by rw [decide_eq_true_eq]; exact c)]
      refine List.pairwise_cons.mpr ⟨fun x hx => ?_, h⟩
      have c' : LeS p q := c
      rcases List.mem_cons.mp hx with rfl | hx
      · exact c'
      · exact c'.trans (h1 x hx)
theorem sortS_sorted : ∀ l : List Str, (sortS l).Pairwise LeS
  | [] => .nil
  | p :: r => insS_sorted p _ (sortS_sorted r)
def sortAnyD (x : D) : M D := fun s => match seqD s x with
  | some ds => (match dPl ds, dInts ds with
    | some ps, _ => .ok (.vls ((sortP ps).map pD)) s
    | none, some ns => .ok (.vls ((sortI ns).map D.int)) s
    | none, none => .stuck)
  | none => sortedD x s
theorem kStrs_rep {K : PySem.W.Frag} {μ : Mu} {H : Hp} : ∀ {kvs : List (Key × D)} {xs : List (Key × V)} {ks : List Str}, kStrs kvs = some ks → RepK K μ H xs kvs → xs.map (·.1) = ks.map Sum.inr
  | [], [], ks, e, _ => by
    cases e
    rfl
  | [], p :: xs, _, _, h => by have := h.1; simp at this
  | q :: kvs, [], _, _, h => by have := h.1; simp at this
  | (k, d) :: kvs, (k', v) :: xs, ks, e, ⟨h1, h2⟩ => by
    rw [List.map_cons, List.map_cons] at h1 h2
    obtain rfl : k' = k := (List.cons.inj h1).1
    cases h2 with
    | cons r t =>
      unfold kStrs mapO at e
      cases k' with
      | inl i => cases e
      | inr x =>
        cases q2 : mapO keyStr kvs with
        | none => rw [q2] at e; cases e
        | some ms =>
          rw [q2] at e
          cases e
          have := kStrs_rep (kvs := kvs) q2 ⟨(List.cons.inj h1).2, t⟩
          rw [List.map_cons, List.map_cons, this]
theorem strs_rep {K : PySem.W.Frag} {μ : Mu} {H : Hp} : ∀ ks : List Str, RepL K μ H (ks.map V.str) (ks.map D.str)
  | [] => .nil
  | x :: r => .cons (.str x) (strs_rep r)
theorem ints_rep {K : PySem.W.Frag} {μ : Mu} {H : Hp} : ∀ ks : List Int, RepL K μ H (ks.map V.int) (ks.map D.int)
  | [] => .nil
  | x :: r => .cons (.int x) (ints_rep r)
section
variable {X : Cx} {E : XK}
theorem cr_sortAny (hc : X.calm = true) : CallR X (.builtin "sorted") (RLof X.K E (fun1 sortAnyD)) := CallR.imp (CallR.or cr_sortedPQ (CallR.or cr_sortedI (call_sortedD hc))) (rl_1 fun μ s d v H Q hs r post => by
  unfold sortAnyD at post
  cases e1 : seqD s d with
  | none =>
    simp only [e1] at post
    unfold sortedD at post
    cases r with
    | @ptr a n hn =>
      simp only [] at post
      cases ec : s[n]? with
      | none => simp only [ec] at post; exact (show False from post).elim
      | some c =>
        simp only [ec] at post
        cases c with
        | dK kvs =>
          simp only [] at post
          cases ek : kStrs kvs with
          | none => simp only [ek] at post; exact (show False from post).elim
          | some ks =>
            simp only [ek] at post
            split at post
            · rename_i hz
              obtain ⟨xs, h1, h2⟩ := cell_dK hs hn ec
              refine .inr (.inr ⟨a, xs, ks, rfl, .inl h1, kStrs_rep ek h2, hz, fun ys p hp hsd hn2 => ?_⟩)
              have : ys = sortS ks := uniq_by LeS.anti (sortedS_pw ys hsd) (sortS_sorted ks) (hp.trans (sortS_perm ks).symm)
              subst this
              exact post_vls hs (strs_rep _) post p hn2
            · exact (show False from post).elim
        | lst ds => exact (show False from post).elim
        | dT kvs => exact (show False from post).elim
        | dN kvs => exact (show False from post).elim
        | fN kvs => exact (show False from post).elim
        | ins C fs => exact (show False from post).elim
        | fK kvs => exact (show False from post).elim
    | _ => exact (show False from post).elim
  | some ds =>
    simp only [e1] at post
    obtain ⟨l, xs, rfl, hq, hl⟩ := seqD_rep hs r e1
    cases e2 : dPl ds with
    | some ps =>
      simp only [e2] at post
      refine .inl ⟨l, xs, ps, rfl, hq, dPl_rep e2 hl, fun ys qs p hp hw hk hn => ?_⟩
      have : qs = sortP ps := leP_uniq hw (sortP_sorted ps) (hp.trans (sortP_perm ps).symm)
      subst this
      exact post_vls hs (keys_rep hk) post p hn
    | none =>
      cases e3 : dInts ds with
      | none => simp only [e2, e3] at post; exact (show False from post).elim
      | some ns =>
        simp only [e2, e3] at post
        have ex := dInts_rep e3 hl
        subst ex
        refine .inr (.inl ⟨l, ns, rfl, hq, fun ns' p hp hw hn => ?_⟩)
        have : ns' = sortI ns := uniq_by (fun a b h k => by omega) hw (sortI_sorted ns) (hp.trans (sortI_perm ns).symm)
        subst this
        exact post_vls hs (ints_rep _) post p hn)
end
end PL

/-! PL17: dict(d), a copy. -/
namespace PL
open PySem PySem.Spec PyProof.Rows L2
section
variable {X : Cx} {E : XK}
theorem cr_dictD : CallR X (.type "dict") (RLof X.K E (fun1 dictD)) := CallR.imp call_dictD (rl_1 fun μ s d v H Q hs r post => by
  unfold dictD at post
  cases r with
  | @ptr a n hn =>
    simp only [] at post
    cases ec : s[n]? with
    | none => simp only [ec] at post; exact (show False from post).elim
    | some c =>
      simp only [ec] at post
      cases c with
      | dK kvs =>
        obtain ⟨xs, h1, h2⟩ := cell_dK hs hn ec
        exact ⟨a, xs, rfl, .inl h1, fun p hp => post_dict hs h2 post p hp⟩
      | lst ds => exact (show False from post).elim
      | dT kvs => exact (show False from post).elim
      | dN kvs => exact (show False from post).elim
      | fN kvs => exact (show False from post).elim
      | ins C fs => exact (show False from post).elim
      | fK kvs => exact (show False from post).elim
  | _ => exact (show False from post).elim)
end
end PL

/-! PL18: defs that raise. -/
namespace PL
open PySem PySem.Spec PyProof.Rows L2
def raiseM (C : Str) (me : Env → M D) (env : Env) : M Out := me env >>= fun _ => fun s => .exc C s
/-- what an own exception class without __init__ must have -/
structure ExcC (K : PySem.W.Frag) (mg : Str → Option Value) (x : Str) (C : Addr) : Prop where
  n : ClsAt K x C
  g : mg x = some (.ref C)
  k : PySem.W.keepIn K (.ref C) = true
  q : PySem.W.excIn K C [.type "ValueError", .type "Exception", .type "BaseException", .type "object"] "ValueError.__new__" = true
  b : PySem.W.subIn K (.ref C) (.type "BaseException") = some true
  t : PySem.W.typeIn K (.ref C) = some (.type "type")
section
variable {X : Cx} {E : XK}
theorem ss_raise {x : Str} {C : Addr} {e : Expr} {me : Env → M D} {p pos pos2 : Pos} (hc : X.calm = true) (tk : Takes X (fun cls d _ H => E cls d H)) (c : ExcC X.K X.mg x C) (hg : Gl X x) (he : SE X E e me) (hs : starEach [e] X.env = (false, eval e X.env) :: starEach [] X.env := by rfl) (hdb : (x == ("__debug__" : Str)) = false := by decide) :
    SS X E (.Raise (some (.Call (.Name x p) [e] [] pos2)) none pos) (raiseM x me) := PS.imp (ps_raise hc tk (SkE.pmk_own1 PySem.F.excBase_ValueError c.q c.g c.k (raises_own c.b c.t) hg he hs hdb)) (by
  rintro Dd σ H ⟨μ, env, s, hv, hs, post⟩
  exact ⟨μ, env, s, hv, hs, (Post.bind post).mono fun d s1 μ1 H1 g1 hs1 p1 v hx => p1 C c.n μ1 H1 (Grow.refl _ _) hs1⟩)
end
section
variable {P : Program} {w : World} {K : PySem.W.Frag} {mg : Str → Option Value} {base : Heap}
/-- what raises nothing may be called where something may be raised -/
theorem fn_up {k n : Nat} {f : Addr} {fd : FuncData} {ps : List Str} {F : List D → M D} (h : FnOk P w K mg base CX0 k f fd ps (spM K n F)) : FnOk P w K mg base (L2.CX P w) k f fd ps (spM K n F) :=
  ⟨h.len, fun A outer s H args us vs Q E hr he hb hv hs => codeAny_mono (h.run A outer s H args us vs Q E hr he hb hv hs) fun r s' q => by
    cases r with
    | error e => exact False.elim q
    | ok fl => cases fl <;> exact q⟩
theorem fn_okX {x qual : Str} {st : Stmt} {f : Addr} {fd : FuncData} {N ps : List Str} {k n : Nat} {m : Env → M Out} (F : Fun K x qual st f fd) (Sc : FnScope N ps (defScope st)) (hn : ps.length = n)
    (hbody : ∀ (cdv : Value) (A : Around) (outer : List PySem.Env) (s : Shared) (H : Hp) (E : XK), Room k (A.deeper (envOfC qual (defScope st) s.heap.objs.size f cdv)) → SSs (cxOf (L2.CX P w) P w K mg base N qual (defScope st) f cdv A outer s H E) E (defBody st) m) :
    FnOk P w K mg base (L2.CX P w) (k + 1) f fd ps (spM K n (fnM N.length m)) := by
  refine F.okX Sc (fun vs H Q E h => ?_) (fun cdv A outer s H vs Q E hr h => ?_)
  · obtain ⟨μ, s, ds, hs, hl, hlen, p⟩ := h
    rw [hl.length, hlen, hn]
  · obtain ⟨μ, s0, ds, hs, hl, hlen, p⟩ := h
    refine ⟨_, hbody cdv A outer s H E hr, μ, startE N.length ds, s0, simV_start N hl, hs, (Post.bind p).mono fun o s1 μ1 H1 g1 hs1 p1 => ?_⟩
    cases o with
    | nx env => exact fun σ' _ => post_val hs1 p1 .non
    | rt d => exact fun v hr => post_val hs1 p1 hr
    | bk env => exact (show False from p1).elim
    | ct env => exact (show False from p1).elim
end
end PL

/-! PL19: classes and methods of the text. -/
namespace PL
open PySem PySem.Spec PyProof.Rows L2
section
variable {K : PySem.W.Frag} {mg : Str → Option Value}
/-- a class of the text -/
structure ClsOk (K : PySem.W.Frag) (mg : Str → Option Value) (x : Str) (cA : Addr) : Prop where
  n : ClsAt K x cA
  g : mg x = some (.ref cA)
  c : Cls K cA
structure MetOk (K : PySem.W.Frag) (cA : Addr) (x qual : Str) (st : Stmt) (ps : List Str) (f : Addr) (fd : FuncData) : Prop where
  fn : Fun K x qual st f fd
  b : Binds K fd ps []
  m : Meth K cA x f
inductive MetIn (K : PySem.W.Frag) (cA : Addr) (x qual : Str) (st : Stmt) : Prop where
  | mk {f : Addr} {od an : Option Addr} {sl : Array (Option Value)} {oc kV dc pm cd ct : Value} (a : PySem.W.findIn K (.ref cA) x = some (some (.ref f))) (i : PySem.W.isFn K (.ref f) = true)
      (l : K.lookup f = some ⟨oc, od, .func (PySem.W.fnOf x qual (defArgs st) (defBody st) (defScope st) .none kV dc pm an cd ct), sl⟩) (c : PySem.W.codeIn K cd qual = true) (k : PySem.W.keepIn K (.ref f) = true) : MetIn K cA x qual st
theorem MetIn.get {cA : Addr} {x qual : Str} {st : Stmt} (d : MetIn K cA x qual st) (ps : List Str)
    (hb : ∀ (kV doc pm : Value) (an : Option Addr) (cdv ct : Value) (us : List Value), us.length = ps.length → bindArgs (PySem.W.fnOf x qual (defArgs st) (defBody st) (defScope st) .none kV doc pm an cdv ct) ⟨us, []⟩ = pure (ps.zip us)) :
    ∃ f fd, MetOk K cA x qual st ps f fd := by
  obtain ⟨a, i, l, c, k⟩ := d
  have F := fun_mk (st := st) l c k
  exact ⟨_, _, ⟨F, F.binds hb, ⟨a, i, k⟩⟩⟩
inductive ClsIn (K : PySem.W.Frag) (x : Str) (cA : Addr) : Prop where
  | mk (n : PySem.W.nsIn K mainGlobals x = some (some (.ref cA))) (pg : PySem.W.plainGet K cA Str.empty = true) (hd : PySem.W.hasDictIn K cA = true) (po : PySem.W.plainOver K cA = true) (sa : PySem.W.findIn K (.ref cA) "__setattr__" = some (some (.builtin "object.__setattr__"))) : ClsIn K x cA
theorem ClsIn.get {x : Str} {cA : Addr} {h : Heap} (d : ClsIn K x cA) (X : K.In h) (G : h.Ns mainGlobals mg) : ClsOk K mg x cA := by
  obtain ⟨n, pg, hd, po, sa⟩ := d
  exact ⟨n, PySem.W.mg_of X G n, pg, hd, po, sa⟩
theorem mk_of_met {cA : Addr} {qual : Str} {st : Stmt} {ps : List Str} {f : Addr} {fd : FuncData} (d : MetOk K cA "__init__" qual st ps f fd) (h : PySem.W.makesIn K cA = true) (k : PySem.W.keepIn K (.ref cA) = true) : Mk K cA f := ⟨h, d.m.at_, d.m.fn, k⟩
end
end PL

/-! PL20: sorted(set(xs)) of a list of pairs of integers. -/
namespace PL
open PySem PySem.Spec PyProof.Rows L2
section
variable {X : Cx}
def pair2 (l : List Int) : Int × Int := (l.getD 0 0, l.getD 1 0)
theorem len2 {l : List Int} (h : l.length = 2) : l = [(pair2 l).1, (pair2 l).2] := by
  cases l with
  | nil => cases h
  | cons a l =>
    cases l with
    | nil => cases h
    | cons b l =>
      cases l with
      | nil => rfl
      | cons c l => simp at h
theorem tupInts_pair {h : Heap} {b : Addr} {k : List Int} {P : Program} {w : World} (x : L2.IsT P w h k b) (h2 : k.length = 2) : Srt.IsPair h (.ref b) (pair2 k).1 (pair2 k).2 := by
  rw [len2 h2] at x
  obtain ⟨a, xs, e, ht, hi⟩ := tupInts_of x
  cases e
  obtain ⟨o, ho, hc, n, hd⟩ := ht
  obtain ⟨l⟩ := xs
  have hi' : PyProof.Rows.IntsAre l [(pair2 k).1, (pair2 k).2] := hi
  cases hi' with
  | cons _ t1 r1 =>
    cases r1 with
    | cons _ t2 r2 =>
      cases r2
      exact ⟨b, o, t1, t2, n, rfl, ho, hc, hd⟩
/-- sorted(s), a set of pairs of integers -/
theorem sorted_setPr {P : Program} {w : World} {A : Around} {E : Value → Shared → Prop} {s : Shared} {a : Addr} {L : List (Addr × List Int)} {es : Array (Int × Value)} {ep : Nat} {t : SetTable} {Q : Value → Shared → Prop}
    (R : SetTR P w s.heap a L es ep t) (hh : A.handled = none) (h2 : ∀ p ∈ L, p.2.length = 2)
    (h : ∀ (s' : Shared) (p : Nat) (out : List Value) (c : Nat), (∀ (b : Addr) (o : Obj), s.heap.get? b = some o → s'.heap.get? b = some o) → s'.gens = s.gens → s'.os = s.os → s.heap.objs.size ≤ p → s'.heap.get? p = some (seqObj "list" out.toArray c) →
      out.Perm (L.map fun q => Value.ref q.1) → SrtO.Srtd (fun v u => SrtO.lexB (kOf s.heap v) (kOf s.heap u)) out → Q (.ref p) s') :
    wpAny (model P w) A (call (.builtin "sorted") [.ref a]) Q E s := by
  obtain ⟨o, ho, hex, hd⟩ := R.ob
  have hsz := R.size
  have hfew := R.few
  refine Calls.call_function_entry PyProof.Rows.kind_sorted PyProof.Rows.plain_sorted PyProof.Rows.entry_sorted (PyProof.Rows.args_sorted1 _) ?_
  unfold Builtin.«sorted»
  refine wpAny_bind (m := checkCount "sorted" 1 1 _) (wpAny_pure ?_)
  refine wpAny_bind (collect_set hh ⟨o, ho, hex.1, hd⟩ R.fits (Nat.lt_of_lt_of_le (by omega : es.size < 64) (by decide)) R.tab.ris R.led fun s1 vs k1 hz g1 o1 pm => ?_)
  have hes : es.toList.map (fun x => x.2) = L.map fun q => Value.ref q.1 := by
    rw [R.rows]
    unfold rowsOf
    rw [List.map_map]
    rfl
  rw [hes] at pm
  have hal : vs.length ≤ sizeLine := by
    rw [pm.length_eq, List.length_map]
    exact Nat.le_trans (Nat.le_of_lt hfew) (by decide)
  have hp : ∀ v ∈ vs, Srt.IsPair s.heap v (kOf s.heap v).1 (kOf s.heap v).2 := fun v hv => by
    obtain ⟨q, hq, e⟩ := List.mem_map.mp (pm.mem_iff.mp hv)
    have pr := tupInts_pair (R.tup q hq) (h2 q hq)
    rw [← e, kOf_pair pr]
    exact pr
  refine wpAny_bind (wpAny_newList ?_ hal)
  have hoL : (s1.heap.push (seqObj "list" vs.toArray 0)).get? s1.heap.objs.size = some (seqObj "list" vs.toArray 0) := Heap.get?_push_size _ rfl
  show wpAny _ _ _ _ _ { s1 with heap := s1.heap.push (seqObj "list" vs.toArray 0) }
  have keep : ∀ b o, s.heap.get? b = some o → (s1.heap.push (seqObj "list" vs.toArray 0)).get? b = some o := fun b o e => Heap.get?_push_of_some _ (k1 b o e)
  refine wpAny_bind (wpAny_holding (wpAny_call_entry PyProof.Rows.slot_list_sort ⟨_, hoL, rfl⟩ PyProof.Rows.entry_list_sort
    (SrtO.list_sort_ord (s := { s1 with heap := s1.heap.push (seqObj "list" vs.toArray 0) }) (SrtO.swo_lex (kOf s.heap)) hoL hal (fun hl2 => ?_) fun out hs hb => ⟨_, rfl, ?_⟩) (PyProof.Rows.args_list_sort _)))
  · refine SrtO.pairs_sortableO (s := { s1 with heap := s1.heap.push (seqObj "list" vs.toArray 0) }) (by omega) (fun v hm => (hp v hm).keeps fun b o e _ => keep b o e) fun o e => ?_
    have e' : some o = some (seqObj "list" vs.toArray 0) := e.symm.trans hoL
    cases e'
    intro c
    exact absurd (Value.type.inj c) (by decide)
  · obtain ⟨e2, he2⟩ := PyProof.Rows.sortedHeap_at (vs := vs) (out := out.toArray) hoL
    refine wpAny_pure ⟨_, rfl, h _ _ out e2 (fun b o e => ?_) g1 o1 hz he2 (hb.perm.trans pm) hs⟩
    have hb : b < s1.heap.objs.size := Heap.lt_size (k1 b o e)
    rw [PyProof.Rows.sortedHeap_old (Nat.ne_of_lt hb) (by rw [size_push']; exact Nat.lt_succ_of_lt hb)]
    exact keep b o e
def rSortSetPr (K : PySem.W.Frag) (P : Program) (w : World) : List V → Hp → VK → Prop := fun vs H Q => ∃ (a : Addr) (L : List (Addr × List Int)), vs = [V.ref a] ∧ H a = some (SetTO P w a L) ∧ (∀ p ∈ L, SqT K H p.1 (p.2.map V.int)) ∧ (∀ p ∈ L, p.2.length = 2) ∧
  ∀ ys p, KeysAt K H ys (sortU (L.map fun q => pair2 q.2)) → H p = none → Q (.ref p) (upd H p (.lst ys))
theorem cr_sortedSetPr (hc : X.calm = true) : CallR X (.builtin "sorted") (rSortSetPr X.K X.prog X.w) := by
  intro pins s σ H vs us Q I r h
  obtain ⟨a, L, rfl, ha, hk, h2, q⟩ := h
  obtain ⟨u, rfl, ru⟩ := vals1 r
  obtain rfl : u = Value.ref a := ru
  have R0 : SetT0 X.prog X.w s.heap a L := (I.hok a _ ha).1
  obtain ⟨es, ep, t, R⟩ := R0.full fun p hp => I.isT (hk p hp)
  refine sorted_setPr R (I.ok.hd hc) h2 fun s' d out c kp hg ho hd hn pm sr => ?_
  have hm : ∀ v ∈ out, ∃ q ∈ L, v = .ref q.1 ∧ kOf s.heap v = pair2 q.2 := fun v hv => by
    obtain ⟨q, hq, e⟩ := List.mem_map.mp (pm.mem_iff.mp hv)
    exact ⟨q, hq, e.symm, by rw [← e]; exact kOf_pair (tupInts_pair (R.tup q hq) (h2 q hq))⟩
  have hkeys : KeysAt X.K H (out.map bkV) (out.map (kOf s.heap)) := by
    clear pm sr hn
    induction out with
    | nil => exact .nil
    | cons v out ih =>
      obtain ⟨q, hq, eb, e2⟩ := hm v List.mem_cons_self
      refine .cons ⟨q.1, by rw [eb]; rfl, ?_⟩ (ih fun u hu => hm u (List.mem_cons_of_mem _ hu))
      have := hk q hq
      rw [len2 (h2 q hq)] at this
      rw [e2]
      exact this
  have hsorted : out.map (kOf s.heap) = sortU (L.map fun q => pair2 q.2) := by
    refine lx_uniq ?_ (sortU_sorted _) fun z => ?_
    · have nd : (out.map (kOf s.heap)).Nodup := by
        refine (pm.map (kOf s.heap)).nodup_iff.mpr ?_
        rw [List.map_map]
        refine List.pairwise_map.mpr ?_
        have nd1 : L.Pairwise fun x y => x.2 ≠ y.2 := List.pairwise_map.mp R.nd
        refine List.Pairwise.imp_of_mem (fun {x y} hx hy hne e => hne ?_) nd1
        have e' : kOf s.heap (.ref x.1) = kOf s.heap (.ref y.1) := e
        rw [kOf_pair (tupInts_pair (R.tup x hx) (h2 x hx)), kOf_pair (tupInts_pair (R.tup y hy) (h2 y hy))] at e'
        rw [len2 (h2 x hx), len2 (h2 y hy)]
        have e2 : pair2 x.2 = pair2 y.2 := Prod.ext (congrArg Prod.fst e') (congrArg Prod.snd e')
        rw [e2]
      have sr2 : (out.map (kOf s.heap)).Pairwise fun x y => SrtO.lexB y x = false := by
        refine List.pairwise_map.mpr ?_
        exact sr
      have both := nd.and sr2
      refine List.Pairwise.imp (fun {x y} hxy => ?_) both
      refine Lx.tri y x (fun c => ?_) (Ne.symm hxy.1)
      have := hxy.2
      rw [show SrtO.lexB y x = true from c] at this
      cases this
    · rw [sortU_mem]
      constructor
      · intro hz
        obtain ⟨v, hv, rfl⟩ := List.mem_map.mp hz
        obtain ⟨q, hq, _, e2⟩ := hm v hv
        rw [e2]
        exact List.mem_map.mpr ⟨q, hq, rfl⟩
      · intro hz
        obtain ⟨q, hq, rfl⟩ := List.mem_map.mp hz
        exact List.mem_map.mpr ⟨.ref q.1, pm.mem_iff.mpr (List.mem_map.mpr ⟨q, hq, rfl⟩), kOf_pair (tupInts_pair (R.tup q hq) (h2 q hq))⟩
  have h3 : ∀ u ∈ out, ∃ a, u = Value.ref a := fun u hu => by
    obtain ⟨q, _, e, _⟩ := hm u hu
    exact ⟨_, e⟩
  have hlo : (out.map bkV).length ≤ sizeLine := by
    rw [List.length_map, pm.length_eq, List.length_map]
    exact Nat.le_trans (Nat.le_of_lt R.few) (by decide)
  refine ⟨.ref d, upd H d (.lst (out.map bkV)), ?_, rfl, q _ _ ?_ (I.hok.fresh hd)⟩
  · have J := I.laid (t' := s'.toks) kp hd (o := .lst (out.map bkV)) ⟨hlo, out, c, bkV_vals h3, hn⟩
    exact ⟨J.ok, ho.trans I.os, by rw [hg]; exact I.bare, J.base, J.loc, J.cell, J.free, J.freeC, J.pin, J.hok, J.len⟩
  · rw [← hsorted]
    exact hkeys
end
def ssetD (x : D) : M D := fun s => match seqD s x with
  | some ds => (match dPl ds with
    | some ps => if ps.length < 64 then .ok (.vls ((sortU ps).map pD)) s else .stuck
    | none => .stuck)
  | none => .stuck
section
variable {X : Cx} {E : XK} {a : Expr} {ma : Env → M D} {pos p p2 q : Pos}
/-- the addresses and the items of a list of pairs -/
def addrOf (v : V) : Addr := match v with
  | .ref b => b
  | _ => 0
theorem keys_addr {K : PySem.W.Frag} {H : Hp} : ∀ {xs : List V} {ps : List (Int × Int)}, KeysAt K H xs ps → ∃ ks : List (Addr × List Int), xs = ks.map (fun p => V.ref p.1) ∧ (∀ p ∈ ks, SqT K H p.1 (p.2.map V.int)) ∧ (∀ p ∈ ks, p.2.length = 2) ∧ ks.map (fun p => pair2 p.2) = ps
  | _, _, .nil => ⟨[], rfl, (fun _ h => nomatch h), (fun _ h => nomatch h), rfl⟩
  | _, _, @Paired.cons _ _ _ x z xs ps ⟨b, e, hb⟩ t => by
    obtain ⟨ks, h1, h2, h3, h4⟩ := keys_addr t
    refine ⟨(b, [z.1, z.2]) :: ks, by rw [List.map_cons, ← h1, e], fun p hp => ?_, fun p hp => ?_, by rw [List.map_cons, h4]; rfl⟩
    · rcases List.mem_cons.mp hp with rfl | hp
      · exact hb
      · exact h2 p hp
    · rcases List.mem_cons.mp hp with rfl | hp
      · rfl
      · exact h3 p hp
theorem se_sset (hc : X.calm = true) (hu : X.A.units + 65 < cLine) (ha : SE X E a ma) (hg : Gl X "sorted") (hm : X.mg "sorted" = none) (hg2 : Gl X "set") (hm2 : X.mg "set" = none) (hbs : bootBuiltins "sorted" = some (.builtin "sorted") := by decide +kernel) (hbd : bootBuiltins "set" = some (.type "set") := by decide +kernel)
    (na : starEach [a] X.env = (false, eval a X.env) :: starEach [] X.env := by rfl) (nb : starEach [.Call (.Name "set" p2) [a] [] q] X.env = (false, eval (.Call (.Name "set" p2) [a] [] q) X.env) :: starEach [] X.env := by rfl) : SE X E (.Call (.Name "sorted" p) [.Call (.Name "set" p2) [a] [] q] [] pos) (unM ssetD ma) := by
  refine PE.imp (pe_callB (cr_sortedSetPr hc) hg hm hbs (pa_cons (pe_callTy (cr_setOfT hc (by omega)) hg2 hm2 hbd (pa_cons ha pa_nil na) (by decide) (by decide) na rfl) pa_nil nb) (by decide) (by decide) nb rfl) ?_
  rintro σ H Q ⟨μ, env, s, hv, hs, post⟩
  refine ⟨μ, env, s, hv, hs, (Post.bind post).mono fun x s1 μ1 H1 g1 hs1 p1 v hx => ?_⟩
  unfold ssetD at p1
  cases e1 : seqD s1 x with
  | none => simp only [e1] at p1; exact (show False from p1).elim
  | some ds =>
    cases e2 : dPl ds with
    | none => simp only [e1, e2] at p1; exact (show False from p1).elim
    | some ps =>
      simp only [e1, e2] at p1
      split at p1
      · rename_i hz
        obtain ⟨l, xs, rfl, hq, hl⟩ := seqD_rep hs1 hx e1
        obtain ⟨ks, k1, k2, k3, k4⟩ := keys_addr (dPl_rep e2 hl)
        rw [k1] at hq
        refine ⟨l, ks, rfl, hq, k2, by rw [← k4, List.length_map] at hz; exact hz, fun b L hb hL1 hL2 => ?_⟩
        have g2 : Grow μ1 H1 μ1 (upd H1 b (SetTO X.prog X.w b L)) := grow_new hb
        refine ⟨b, L, rfl, upd_same, fun p hp => g2.sqT (k2 p (hL1 p hp)), fun p hp => k3 p (hL1 p hp), fun ys d hk hd => ?_⟩
        have e3 : sortU (L.map fun q => pair2 q.2) = sortU ps := by
          refine lx_uniq (sortU_sorted _) (sortU_sorted _) fun z => ?_
          rw [sortU_mem, sortU_mem, ← k4]
          constructor
          · intro hz
            obtain ⟨q, hq, rfl⟩ := List.mem_map.mp hz
            exact List.mem_map.mpr ⟨q, hL1 q hq, rfl⟩
          · intro hz
            obtain ⟨q, hq, rfl⟩ := List.mem_map.mp hz
            obtain ⟨r, hr, er⟩ := List.mem_map.mp (hL2 q hq)
            exact List.mem_map.mpr ⟨r, hr, by rw [er]⟩
        rw [e3] at hk
        exact post_vls (hs1.lay hb) (keys_rep hk) (Post.later g2 p1) d hd
      · exact (show False from p1).elim
end
end PL

/-! PL21: min(xs), max(xs) of a list of integers, min of a list of pairs. -/
namespace PL
open PySem PySem.Spec PyProof.Rows L2
def minP (b : Int × Int) : List (Int × Int) → Int × Int
  | [] => b
  | p :: r => minP (if SrtO.lexB p b = true then p else b) r
theorem lexLt_pair (p q : Int × Int) : HT.lexLt [p.1, p.2] [q.1, q.2] = SrtO.lexB p q := by
  unfold SrtO.lexB
  simp only [HT.lexLt]
  by_cases h : p.1 = q.1
  · simp [h]
    by_cases k : p.2 = q.2
    · simp [k]
    · simp [k]
  · simp [h]
section
variable {prog : Program} {w : World} {A : Around} {E : Value → Shared → Prop}
def IsPr (T : Value → Int × Int → Prop) (h : Heap) (v : Value) (p : Int × Int) : Prop := T v p ∧ ∃ a xs, v = .ref a ∧ IsTup h a xs ∧ PyProof.Rows.IntsAre xs.toList [p.1, p.2]
theorem IsPr.keep {T : Value → Int × Int → Prop} {h h' : Heap} {v : Value} {p : Int × Int} (x : IsPr T h v p) (k : ∀ b o, h.get? b = some o → o.cls = .type "tuple" → h'.get? b = some o) : IsPr T h' v p := by
  obtain ⟨tv, a, xs, e, ⟨o, ho, hc, r⟩, hi⟩ := x
  exact ⟨tv, a, xs, e, ⟨o, k a o ho hc, hc, r⟩, hi⟩
theorem lt_pr {T : Value → Int × Int → Prop} {s : Shared} {v u : Value} {p q : Int × Int} {Q : Value → Shared → Prop} (hv : IsPr T s.heap v p) (hu : IsPr T s.heap u q) (hA : A.units < cLine) (h : Q (.bool (SrtO.lexB p q)) s) : wpAny (model prog w) A (richCompare .Lt v u) Q E s := by
  obtain ⟨_, a, xs, rfl, t1, i1⟩ := hv
  obtain ⟨_, b, ys, rfl, t2, i2⟩ := hu
  exact HT.lt_tupInts t1 t2 i1 i2 hA (by rw [lexLt_pair]; exact h)
theorem tup_ne {h : Heap} {S : Addr} {o' : Obj} (hS : h.get? S = some o') (hc : o'.cls = .type "list") {b : Addr} {o : Obj} (e : h.get? b = some o) (c : o.cls = .type "tuple") : b ≠ S := fun z => by
  subst z
  rw [e] at hS
  cases hS
  rw [c] at hc
  exact absurd (Value.type.inj hc) (by decide)
theorem min_loopP {T : Value → Int × Int → Prop} {R : Result → Shared → Prop} {S I l : Addr} {items : Array Value} (hu : A.units + 2 < cLine) (hh : A.handled = none) (hlI : l ≠ I) (hSI : S ≠ I) (hSl : S ≠ l) :
    ∀ (rest : List (Int × Int)) (i : Nat) (s : Shared) (vb : Value) (b : Int × Int) (c : Nat), items.size = i + rest.length →
      (∀ (j : Nat) (q : Int × Int), rest[j]? = some q → ∃ v, items[i + j]? = some v ∧ IsPr T s.heap v q) →
      s.heap.IsListIter I l i → s.heap.IsList l items → IsPr T s.heap vb b → s.heap.get? S = some { cls := .type "list", data := .seq #[vb, vb] c } →
      (∀ v h' tk, IsPr T h' v (minP b rest) → (∀ b o, b ≠ S → b ≠ I → s.heap.get? b = some o → h'.get? b = some o) → R (.ok (.ret v)) { s with heap := h', toks := tk }) →
      codeAny (model prog w) A (.builtin "min.loop" ⟨[.ref I, .none, .ref S], []⟩) R s
  | [], i, s, vb, b, c, hsz, ht, hit, hl, hb, hS, hR => by
    refine codeAny_builtin F.entry_min_loop ?_
    rw [Around.under_plainId F.plain_min_loop _]
    refine wpAny_bind (wpAny_seqItems hS rfl ?_)
    refine wpAny_bind (wpAny_tryCatch ?_)
    refine wpAny_pyNext_list_end (A := A.in1) hh hit hl (by first | exact Array.getElem?_eq_none (Nat.le_of_eq hsz) | (simp at hsz; simp; omega)) fun h' he => ?_
    have hS' := he S _ hSI hS
    show wpAny _ A.in1 (updateSeq S (fun _ => #[]) >>= _) _ _ _
    refine wpAny_bind (wpAny_updateSeq hS' rfl ?_)
    refine wpAny_bind (wpAny_letGo ?_)
    refine wpAny_pure ?_
    have k2 : ∀ b o, b ≠ S → b ≠ I → s.heap.get? b = some o → (h'.update S (Obj.mapSeq fun _ => #[])).get? b = some o := fun b o h1 h2 e => by
      rw [Heap.get?_update_ne h' b S _ h1]
      exact he b o h2 e
    exact hR vb _ s.toks (hb.keep fun b o e c => k2 b o (tup_ne hS rfl e c) (ne_iter hit e c) e) k2
  | q :: rest, i, s, vb, b, c, hsz, ht, hit, hl, hb, hS, hR => by
    obtain ⟨v, hv, hq⟩ := ht 0 q rfl
    rw [List.length_cons] at hsz
    refine codeAny_builtin F.entry_min_loop ?_
    rw [Around.under_plainId F.plain_min_loop _]
    refine wpAny_bind (wpAny_seqItems hS rfl ?_)
    refine wpAny_bind (wpAny_tryCatch ?_)
    refine wpAny_pyNext_list_item (x := v) hit hl (by simpa using hv) fun h1 hit1 hs1 => ?_
    have hS1 := hs1.extBut S _ hSI hS
    have up1 : ∀ b o, s.heap.get? b = some o → o.cls = .type "tuple" → h1.get? b = some o := fun b o e c => hs1.extBut b o (ne_iter hit e c) e
    have hq1 := hq.keep up1
    have hb1 := hb.keep up1
    have hl1 : h1.IsList l items := hl.extBut hs1.extBut hlI
    refine wpAny_bind (wpAny_pure ?_)
    show wpAny _ A.in1 (tryCatch (holding [v, v] (do
                let answer ← richCompare CmpOp.Lt v vb
                let yes ← holding [answer] (truthy answer)
                letGo [answer]
                pure yes)) _ >>= _) _ _ _
    refine wpAny_bind (wpAny_tryCatch (wpAny_holding (wpAny_bind (lt_pr hq1 hb1 (show A.in1.units < cLine by
      have : A.in1.units = A.units + 1 := rfl
      omega) ?_))))
    refine wpAny_bind (wpAny_holding (wpAny_truthy_bool ?_))
    refine wpAny_bind (wpAny_letGo (wpAny_pure ?_))
    have next : ∀ (h2 : Heap) (vb' : Value) (b' : Int × Int) (c' : Nat), b' = (if SrtO.lexB q b = true then q else b) → IsPr T h2 vb' b' → (∀ b o, b ≠ S → h1.get? b = some o → h2.get? b = some o) → h2.get? S = some { cls := .type "list", data := .seq #[vb', vb'] c' } →
        codeAny (model prog w) A (.builtin "min.loop" ⟨[.ref I, .none, .ref S], []⟩) R { s with heap := h2 } := fun h2 vb' b' c' eb hb' k2 hS2 => by
      refine min_loopP (T := T) (items := items) hu hh hlI hSI hSl rest (i + 1) { s with heap := h2 } vb' b' c' (by omega) (fun j q' e => ?_) (hit1.at fun o' e => k2 I o' (Ne.symm hSI) e) ?_ hb' hS2 fun v h' tk hv k => ?_
      · obtain ⟨v', hv', hq'⟩ := ht (j + 1) q' (by simpa using e)
        refine ⟨v', by rw [show i + 1 + j = i + (j + 1) by omega]; exact hv', (hq'.keep up1).keep fun b o e c => k2 b o (tup_ne hS1 rfl e c) e⟩
      · exact hl1.extBut (fun b o n e => k2 b o n e) (Ne.symm hSl)
      · exact hR v h' tk (by rw [eb] at hv; exact hv) fun b o n1 n2 e => k b o n1 n2 (k2 b o n1 (hs1.extBut b o n2 e))
    by_cases hlt : SrtO.lexB q b = true
    · rw [hlt]
      show wpAny _ A.in1 (updateSeq S (fun _ => #[v, v]) >>= _) _ _ _
      refine wpAny_bind (wpAny_updateSeq hS1 rfl ?_)
      refine wpAny_bind (wpAny_letGo ?_)
      refine wpAny_pure ⟨plainId_quiet F.plain_min_loop _, ?_⟩
      have k2 : ∀ b o, b ≠ S → h1.get? b = some o → (h1.update S (Obj.mapSeq fun _ => #[v, v])).get? b = some o := fun b o n e => by
        rw [Heap.get?_update_ne h1 b S _ n]
        exact e
      refine next _ v q c (by rw [if_pos hlt]) (hq1.keep fun b o e c => k2 b o (tup_ne hS1 rfl e c) e) k2 ?_
      · exact Heap.get?_update_self _ hS1 rfl
    · have hf : SrtO.lexB q b = false := by
        cases e : SrtO.lexB q b with
        | true => exact absurd e hlt
        | false => rfl
      rw [hf]
      show wpAny _ A.in1 (letGo [v, v] >>= _) _ _ _
      refine wpAny_bind (wpAny_letGo ?_)
      refine wpAny_pure ⟨plainId_quiet F.plain_min_loop _, ?_⟩
      exact next h1 vb b c (by rw [if_neg hlt]) hb1 (fun b o _ e => e) hS1
theorem min_firstP {T : Value → Int × Int → Prop} {R : Result → Shared → Prop} {S I l : Addr} {items : Array Value} {s : Shared} {p0 : Int × Int} {ps : List (Int × Int)} {c : Nat} (hu : A.units + 2 < cLine) (hh : A.handled = none) (hlI : l ≠ I) (hSI : S ≠ I) (hSl : S ≠ l) (hsz : items.size = (p0 :: ps).length)
    (ht : ∀ (j : Nat) (q : Int × Int), (p0 :: ps)[j]? = some q → ∃ v, items[j]? = some v ∧ IsPr T s.heap v q) (hit : s.heap.IsListIter I l 0) (hl : s.heap.IsList l items) (hS : s.heap.get? S = some { cls := .type "list", data := .seq #[] c })
    (hR : ∀ v h' tk, IsPr T h' v (minP p0 ps) → (∀ b o, b ≠ S → b ≠ I → s.heap.get? b = some o → h'.get? b = some o) → R (.ok (.ret v)) { s with heap := h', toks := tk }) :
    codeAny (model prog w) A (.builtin "min.loop" ⟨[.ref I, .none, .ref S], []⟩) R s := by
  obtain ⟨v, hv, hq⟩ := ht 0 p0 rfl
  rw [List.length_cons] at hsz
  refine codeAny_builtin F.entry_min_loop ?_
  rw [Around.under_plainId F.plain_min_loop _]
  refine wpAny_bind (wpAny_seqItems hS rfl ?_)
  refine wpAny_bind (wpAny_tryCatch ?_)
  refine wpAny_pyNext_list_item (x := v) hit hl (by simpa using hv) fun h1 hit1 hs1 => ?_
  have hS1 := hs1.extBut S _ hSI hS
  have up1 : ∀ b o, s.heap.get? b = some o → o.cls = .type "tuple" → h1.get? b = some o := fun b o e c => hs1.extBut b o (ne_iter hit e c) e
  have hl1 : h1.IsList l items := hl.extBut hs1.extBut hlI
  refine wpAny_bind (wpAny_pure ?_)
  show wpAny _ A.in1 (updateSeq S (fun _ => #[v, v]) >>= _) _ _ _
  refine wpAny_bind (wpAny_updateSeq hS1 rfl ?_)
  refine wpAny_pure ⟨plainId_quiet F.plain_min_loop _, ?_⟩
  have k2 : ∀ b o, b ≠ S → h1.get? b = some o → (h1.update S (Obj.mapSeq fun _ => #[v, v])).get? b = some o := fun b o n e => by
    rw [Heap.get?_update_ne h1 b S _ n]
    exact e
  refine min_loopP (T := T) (items := items) hu hh hlI hSI hSl ps 1 { s with heap := h1.update S (Obj.mapSeq fun _ => #[v, v]) } v p0 (c + 1) (by omega) (fun j q' e => ?_) (hit1.at fun o' e => k2 I o' (Ne.symm hSI) e) ?_ ?_ ?_ fun v h' tk hv k => ?_
  · obtain ⟨v', hv', hq'⟩ := ht (j + 1) q' (by simpa using e)
    exact ⟨v', by rw [Nat.add_comm]; exact hv', (hq'.keep up1).keep fun b o e c => k2 b o (tup_ne hS1 rfl e c) e⟩
  · exact hl1.extBut (fun b o n e => k2 b o n e) (Ne.symm hSl)
  · exact (hq.keep up1).keep fun b o e c => k2 b o (tup_ne hS1 rfl e c) e
  · exact Heap.get?_update_self (Obj.mapSeq fun _ => #[v, v]) hS1 rfl
  · exact hR v h' tk hv fun b o n1 n2 e => k b o n1 n2 (k2 b o n1 (hs1.extBut b o n2 e))
/-- min(l), a list of pairs -/
theorem call_min_prs {T : Value → Int × Int → Prop} {s : Shared} {l : Addr} {items : Array Value} {p0 : Int × Int} {ps : List (Int × Int)} {Q : Value → Shared → Prop} (hu : A.units + 2 < cLine) (hh : A.handled = none) (hl : s.heap.IsList l items) (hsz : items.size = (p0 :: ps).length)
    (ht : ∀ (j : Nat) (q : Int × Int), (p0 :: ps)[j]? = some q → ∃ v, items[j]? = some v ∧ IsPr T s.heap v q)
    (h : ∀ v h' tk, IsPr T h' v (minP p0 ps) → (∀ b o, s.heap.get? b = some o → h'.get? b = some o) → Q v { s with heap := h', toks := tk }) :
    wpAny (model prog w) A (call (.builtin "min") [.ref l]) Q E s := by
  refine call_function_tree F.kind_min F.plain_min F.entry_min (F.args_min1 _) ?_
  refine wpAny_bind (wpAny_of_eq rfl (wpAny_bind (wpAny_pure (wpAny_bind ?_))))
  refine wpAny_pyIter_list hl ?_
  have hlt : l < s.heap.objs.size := by
    obtain ⟨o, e, _⟩ := hl
    exact Heap.lt_size e
  have k1 : ∀ b o, s.heap.get? b = some o → (s.heap.push { cls := Value.type "list_iterator", data := Data.fields #[Value.ref l, Value.int 0 0] }).get? b = some o := fun b o e => Heap.get?_push_of_some _ e
  have hI : (s.heap.push { cls := Value.type "list_iterator", data := Data.fields #[Value.ref l, Value.int 0 0] }).IsListIter s.heap.objs.size l 0 := ⟨_, Heap.get?_push_size s.heap rfl, rfl, rfl⟩
  have hl1 := hl.push { cls := Value.type "list_iterator", data := Data.fields #[Value.ref l, Value.int 0 0] }
  have hsz1 : (s.heap.push { cls := Value.type "list_iterator", data := Data.fields #[Value.ref l, Value.int 0 0] }).objs.size = s.heap.objs.size + 1 := size_push' _ _
  obtain ⟨I, eI⟩ : ∃ I, I = s.heap.objs.size := ⟨_, rfl⟩
  obtain ⟨H1, e1⟩ : ∃ H1, H1 = s.heap.push { cls := Value.type "list_iterator", data := Data.fields #[Value.ref l, Value.int 0 0] } := ⟨_, rfl⟩
  rw [← e1, ← eI] at hI
  rw [← e1] at hl1 hsz1 k1
  rw [← eI] at hsz1
  rw [← e1, ← eI]
  refine wpAny_bind (wpAny_newObj_type ?_)
  refine wpAny_pure ⟨plainId_quiet F.plain_min_loop _, ?_⟩
  have k2 : ∀ b o, H1.get? b = some o → (H1.push { cls := Value.type "list", data := Data.seq #[] }).get? b = some o := fun b o e => Heap.get?_push_of_some _ e
  have nlI : l ≠ I := by rw [eI]; exact Nat.ne_of_lt hlt
  have nSI : H1.objs.size ≠ I := by rw [hsz1]; exact Nat.succ_ne_self _
  have nlt : ∀ b, b < s.heap.objs.size → b ≠ H1.objs.size ∧ b ≠ I := fun b hb => by
    rw [← eI] at hb
    exact ⟨by rw [hsz1]; exact Nat.ne_of_lt (Nat.lt_succ_of_lt hb), Nat.ne_of_lt hb⟩
  refine min_firstP (T := T) (items := items) (c := 0) hu hh nlI nSI (Ne.symm (nlt l hlt).1) hsz (fun j q e => ?_) (hI.at fun o' e => k2 I o' e) (hl1.push _) (Heap.get?_push_size H1 rfl) fun v h' tk hv k => ?_
  · obtain ⟨v, h1, h2⟩ := ht j q e
    exact ⟨v, h1, h2.keep fun b o e _ => k2 b o (k1 b o e)⟩
  · refine h v h' tk hv fun b o e => ?_
    have hb : b < s.heap.objs.size := Heap.lt_size e
    exact k b o (nlt b hb).1 (nlt b hb).2 (k2 b o (k1 b o e))
end
section
variable {X : Cx} {E : XK}
def rMinPr (K : PySem.W.Frag) : List V → Hp → VK → Prop := fun vs H Q => ∃ (a : Addr) (xs : List V) (p0 : Int × Int) (ps : List (Int × Int)), vs = [V.ref a] ∧ SqL K H a xs ∧ KeysAt K H xs (p0 :: ps) ∧ ∀ b, SqT K H b [.int (minP p0 ps).1, .int (minP p0 ps).2] → Q (.ref b) H
theorem keys_prs {pins : List (Addr × Obj)} {σ : L2.St} {H : Hp} {s : Shared} (I : Inv X pins σ H s) : ∀ {xs : List V} {us : List Value} {ps : List (Int × Int)}, KeysAt X.K H xs ps → Vals xs us → us.length = ps.length ∧
    ∀ (j : Nat) (q : Int × Int), ps[j]? = some q → ∃ v, us[j]? = some v ∧ IsPr (fun v p => ∃ b, v = .ref b ∧ SqT X.K H b [.int p.1, .int p.2]) s.heap v q
  | _, _, _, .nil, .nil => ⟨rfl, fun j q e => by simp at e⟩
  | _ :: _, u :: us, q :: ps, .cons h t, .cons r rt => by
    obtain ⟨h1, h2⟩ := keys_prs I t rt
    obtain ⟨b, rfl, hb⟩ := h
    obtain rfl : u = Value.ref b := r
    obtain ⟨its, rv, hT, _⟩ := I.tuple hb
    refine ⟨by rw [List.length_cons, List.length_cons, h1], fun j z e => ?_⟩
    cases j with
    | zero =>
      cases e
      exact ⟨_, rfl, ⟨b, rfl, hb⟩, b, _, rfl, hT, intsAre_of rv⟩
    | succ j =>
      obtain ⟨v, e1, e2⟩ := h2 j z (by simpa using e)
      exact ⟨v, by simpa using e1, e2⟩
theorem cr_minPr (hc : X.calm = true) (hu : X.A.units + 2 < cLine) : CallR X (.builtin "min") (rMinPr X.K) := by
  intro pins s σ H vs us Q I r h
  obtain ⟨a, xs, p0, ps, rfl, hs, hk, q⟩ := h
  obtain ⟨its, rv, hl, hz⟩ := I.list hs
  obtain ⟨u, rfl, ru⟩ := vals1 r
  obtain rfl : u = Value.ref a := ru
  obtain ⟨h1, h2⟩ := keys_prs I hk rv
  refine call_min_prs (T := fun v p => ∃ b, v = .ref b ∧ SqT X.K H b [.int p.1, .int p.2]) hu (I.ok.hd hc) hl.isList (by rw [List.size_toArray]; exact h1) (fun j z e => ?_) fun v h' tk hv kp => ?_
  · obtain ⟨v, e1, e2⟩ := h2 j z e
    exact ⟨v, by simpa using e1, e2⟩
  · obtain ⟨⟨b, rfl, hb⟩, _⟩ := hv
    exact ⟨.ref b, H, I.kept kp, rfl, q b hb⟩
/-- min(xs), max(xs) -/
def minI (b : Int) (l : List Int) : Int := l.foldl (fun a n => if n < a then n else a) b
def maxI (b : Int) (l : List Int) : Int := l.foldl (fun a n => if n > a then n else a) b
theorem minI_is : ∀ (l : List Int) (b : Int), (minI b l = b ∨ minI b l ∈ l) ∧ minI b l ≤ b ∧ ∀ y ∈ l, minI b l ≤ y
  | [], b => ⟨.inl rfl, Int.le_refl _, fun _ h => nomatch h⟩
  | n :: l, b => by
    obtain ⟨h1, h2, h3⟩ := minI_is l (if n < b then n else b)
    have e : minI b (n :: l) = minI (if n < b then n else b) l := rfl
    rw [e]
    obtain ⟨z, hz⟩ : ∃ z, z = if n < b then n else b := ⟨_, rfl⟩
    have hz2 : (z = n ∧ n < b) ∨ (z = b ∧ ¬ n < b) := by
      rw [hz]
      split
      · rename_i k; exact .inl ⟨rfl, k⟩
      · rename_i k; exact .inr ⟨rfl, k⟩
    rw [← hz] at h1 h2 h3 ⊢
    clear hz e
    refine ⟨?_, ?_, fun y hy => ?_⟩
    · rcases h1 with h1 | h1
      · rw [h1]
        rcases hz2 with ⟨k, _⟩ | ⟨k, _⟩
        · rw [k]; exact .inr List.mem_cons_self
        · exact .inl k
      · exact .inr (List.mem_cons_of_mem _ h1)
    · omega
    · rcases List.mem_cons.mp hy with rfl | hy
      · omega
      · exact h3 y hy
theorem maxI_is : ∀ (l : List Int) (b : Int), (maxI b l = b ∨ maxI b l ∈ l) ∧ b ≤ maxI b l ∧ ∀ y ∈ l, y ≤ maxI b l
  | [], b => ⟨.inl rfl, Int.le_refl _, fun _ h => nomatch h⟩
  | n :: l, b => by
    obtain ⟨h1, h2, h3⟩ := maxI_is l (if n > b then n else b)
    have e : maxI b (n :: l) = maxI (if n > b then n else b) l := rfl
    rw [e]
    obtain ⟨z, hz⟩ : ∃ z, z = if n > b then n else b := ⟨_, rfl⟩
    have hz2 : (z = n ∧ n > b) ∨ (z = b ∧ ¬ n > b) := by
      rw [hz]
      split
      · rename_i k; exact .inl ⟨rfl, k⟩
      · rename_i k; exact .inr ⟨rfl, k⟩
    rw [← hz] at h1 h2 h3 ⊢
    clear hz e
    refine ⟨?_, ?_, fun y hy => ?_⟩
    · rcases h1 with h1 | h1
      · rw [h1]
        rcases hz2 with ⟨k, _⟩ | ⟨k, _⟩
        · rw [k]; exact .inr List.mem_cons_self
        · exact .inl k
      · exact .inr (List.mem_cons_of_mem _ h1)
    · omega
    · rcases List.mem_cons.mp hy with rfl | hy
      · omega
      · exact h3 y hy
def minLD (x : D) : M D := fun s => match seqD s x with
  | some ds => (match dInts ds, dPl ds with
    | some (n :: ns), _ => .ok (.int (minI n ns)) s
    | _, some (p :: ps) => .ok (pD (minP p ps)) s
    | _, _ => .stuck)
  | none => .stuck
def maxLD (x : D) : M D := fun s => match seqD s x with
  | some ds => (match dInts ds with
    | some (n :: ns) => .ok (.int (maxI n ns)) s
    | _ => .stuck)
  | none => .stuck
theorem cr_minLD (hc : X.calm = true) (hu : X.A.units + 65 < cLine) : CallR X (.builtin "min") (RLof X.K E (fun1 minLD)) := CallR.imp (CallR.or (cr_min hc) (cr_minPr hc (by omega))) (rl_1 fun μ s d v H Q hs r post => by
  unfold minLD at post
  split at post
  · rename_i ds e1
    obtain ⟨l, xs, rfl, hq, hl⟩ := seqD_rep hs r e1
    split at post
    · rename_i _ _ n ns e2
      have ex := dInts_rep e2 hl
      subst ex
      obtain ⟨h1, h2, h3⟩ := minI_is ns n
      refine .inl ⟨l, n :: ns, rfl, hq, by simp, fun m hm hle => ?_⟩
      have : m = minI n ns := by
        have a1 : m ≤ minI n ns := by
          rcases h1 with h1 | h1
          · rw [h1]
            exact hle n List.mem_cons_self
          · exact hle _ (List.mem_cons_of_mem _ h1)
        have a2 : minI n ns ≤ m := by
          rcases List.mem_cons.mp hm with rfl | hm
          · exact h2
          · exact h3 m hm
        omega
      rw [this]
      exact post_int hs post
    · rename_i p ps e3 e2
      refine .inr ⟨l, xs, p, ps, rfl, hq, dPl_rep e3 hl, fun b hb => post_val hs post (.tup hb (.cons (.int _) (.cons (.int _) .nil)))⟩
    · exact (show False from post).elim
  · exact (show False from post).elim)
theorem cr_maxLD (hc : X.calm = true) : CallR X (.builtin "max") (RLof X.K E (fun1 maxLD)) := CallR.imp (cr_max hc) (rl_1 fun μ s d v H Q hs r post => by
  unfold maxLD at post
  split at post
  · rename_i ds e1
    obtain ⟨l, xs, rfl, hq, hl⟩ := seqD_rep hs r e1
    split at post
    · rename_i n ns e2
      have ex := dInts_rep e2 hl
      subst ex
      obtain ⟨h1, h2, h3⟩ := maxI_is ns n
      refine ⟨l, n :: ns, rfl, hq, by simp, fun m hm hle => ?_⟩
      have : m = maxI n ns := by
        have a1 : maxI n ns ≤ m := by
          rcases h1 with h1 | h1
          · rw [h1]
            exact hle n List.mem_cons_self
          · exact hle _ (List.mem_cons_of_mem _ h1)
        have a2 : m ≤ maxI n ns := by
          rcases List.mem_cons.mp hm with rfl | hm
          · exact h2
          · exact h3 m hm
        omega
      rw [this]
      exact post_int hs post
    · exact (show False from post).elim
  · exact (show False from post).elim)
theorem minP_mem : ∀ (ps : List (Int × Int)) (p : Int × Int), minP p ps = p ∨ minP p ps ∈ ps
  | [], p => .inl rfl
  | q :: ps, p => by
    rcases minP_mem ps (if SrtO.lexB q p = true then q else p) with h | h
    · by_cases hl : SrtO.lexB q p = true
      · rw [if_pos hl] at h
        right
        show minP (if SrtO.lexB q p = true then q else p) ps ∈ q :: ps
        rw [if_pos hl, h]
        exact List.mem_cons_self
      · rw [if_neg hl] at h
        left
        show minP (if SrtO.lexB q p = true then q else p) ps = p
        rw [if_neg hl, h]
    · exact .inr (List.mem_cons_of_mem _ h)
end
end PL

/-! PL22: dicts whose keys are tuples of integers and texts: displays, stores, list(d). -/
namespace PL
open PySem PySem.Spec PyProof.Rows L2
/-! ### the machine: a display -/
section
variable {prog : Program} {w : World} {A : Around} {E : Value → Shared → Prop}
/-- what a pair of a display carries -/
def CarT (h : Heap) : List (Value × Value) → List (List L2.Key × Addr × Value) → Prop := Paired fun v q => v.1 = .ref q.2.1 ∧ v.2 = q.2.2 ∧ IsTupleKey (mixKind prog w) h q.1 q.2.1
theorem CarT.but {h h' : Heap} {d : Addr} (hd : ∃ o, h.get? d = some o ∧ o.cls = .type "dict") (k : Heap.SameBut d h h') : ∀ {vs : List (Value × Value)} {qs : List (List L2.Key × Addr × Value)}, CarT (prog := prog) (w := w) h vs qs → CarT (prog := prog) (w := w) h' vs qs
  | _, _, .nil => .nil
  | _, _, .cons ⟨a, b, o, its, n, ho, hc, r⟩ t => by
    refine .cons ⟨a, b, o, its, n, k.extBut _ _ (fun z => ?_) ho, hc, r⟩ (CarT.but hd k t)
    obtain ⟨o2, h2, c2⟩ := hd
    rw [z, h2] at ho
    cases ho
    rw [hc] at c2
    exact absurd (Value.type.inj c2) (by decide)
theorem dh_dict {h : Heap} {d : Addr} {acc : List (List L2.Key × Addr × Value)} (hm : h.DictOfH (tupleKind (mixKind prog w)) d acc) : ∃ o, h.get? d = some o ∧ o.cls = .type "dict" := by
  obtain ⟨o, es, ep, ho, hx, hd, he, hk, hn⟩ := hm
  exact ⟨o, ho, hx.1⟩
theorem storeAllH {d : Addr} (hu : A.units < cLine) : ∀ (vs : List (Value × Value)) (kvs acc : List (List L2.Key × Addr × Value)) (s : Shared) (Q : PUnit → Shared → Prop), CarT (prog := prog) (w := w) s.heap vs kvs → s.heap.DictOfH (tupleKind (mixKind prog w)) d acc → acc.length + kvs.length ≤ sizeLine →
    (∀ h' tk, h'.DictOfH (tupleKind (mixKind prog w)) d (mergedH acc kvs) → Heap.SameBut d s.heap h' → Q PUnit.unit { s with heap := h', toks := tk }) →
    wpAny (model prog w) A (forIn vs PUnit.unit fun x _ => do
      dictSet d x.1 x.2
      pure (ForInStep.yield PUnit.unit)) Q E s
  | _, _, acc, s, Q, .nil, hm, hl, h => by
    refine wpAny_pure ?_
    exact h s.heap s.toks hm (Heap.SameBut.refl _ _)
  | v :: vs, q :: kvs, acc, s, Q, .cons ⟨e1, e2, hk⟩ t, hm, hl, h => by
    obtain ⟨v1, v2⟩ := v
    simp only [] at e1 e2
    subst e1 e2
    rw [List.length_cons] at hl
    rw [List.forIn_cons]
    refine wpAny_bind (wpAny_bind (wpAny_dictSet_heap (knd := tupleKind (mixKind prog w)) (k := q.1) (hsz := by omega) hu hk hm fun h2 hm2 hs2 => wpAny_pure ?_))
    refine storeAllH hu vs kvs _ _ Q (CarT.but (dh_dict hm) hs2 t) hm2 ?_ fun h' tk d' s' => ?_
    · exact Nat.le_trans (Nat.add_le_add_right (storedH_le acc q.1 q.2.1 q.2.2) _) (by omega)
    · exact h h' tk d' (hs2.trans s')
theorem CarT.length {h : Heap} : ∀ {vs : List (Value × Value)} {qs : List (List L2.Key × Addr × Value)}, CarT (prog := prog) (w := w) h vs qs → vs.length = qs.length
  | _, _, .nil => rfl
  | _, _, .cons _ t => by rw [List.length_cons, List.length_cons, CarT.length t]
theorem subDictH (hu : A.units < cLine) {s : Shared} {pairs : List (Sem Value × Sem Value)} {Q : Addr → Shared → Prop} (hlen : pairs.length ≤ 15)
    (h : wpAny (model prog w) A (evalPairs pairs) (fun vs s1 => ∃ kvs, CarT (prog := prog) (w := w) s1.heap vs kvs ∧ s1.heap.DictOfH (tupleKind (mixKind prog w)) s.heap.objs.size [] ∧
      ∀ h' tk, h'.DictOfH (tupleKind (mixKind prog w)) s.heap.objs.size (mergedH [] kvs) → Heap.SameBut s.heap.objs.size s1.heap h' → Q s.heap.objs.size { s1 with heap := h', toks := tk }) E
      { s with heap := s.heap.push { cls := Value.type "dict", data := Data.dict #[] } }) : wpAny (model prog w) A (subDict pairs) Q E s := by
  unfold subDict
  refine wpAny_bind (wpAny_alloc (wpAny_bind (wpAny_holding ?_)))
  rw [if_pos hlen]
  refine wpAny_bind (wpAny_mono (wpAny_evalPairs_len h) (fun vs s1 h1 => ?_) fun _ _ e => e)
  obtain ⟨hvl, kvs, hc, hm, hQ⟩ := h1
  have hsz : ([] : List (List L2.Key × Addr × Value)).length + kvs.length ≤ sizeLine := by
    have := hc.length
    rw [List.length_nil, Nat.zero_add, ← this, hvl]
    exact Nat.le_trans hlen (by decide)
  exact wpAny_holding (wpAny_bind (storeAllH hu vs kvs [] s1 _ hc hm hsz fun h' tk hm' hs' => wpAny_pure (wpAny_pure (hQ h' tk hm' hs'))))
theorem wpDictH (hu : A.units < cLine) {s : Shared} {env : PySem.Env} {keys : List (Option Expr)} {values : List Expr} {pos : Pos} {Q : Value → Shared → Prop} (hall : (keys.all fun x => x.isSome) = true) (hl : keys.length = values.length) (h0 : keys ≠ []) (h15 : keys.length ≤ 15)
    (h : wpAny (model prog w) A (evalPairs (pairTrees keys values env pos)) (fun vs s1 => ∃ kvs, CarT (prog := prog) (w := w) s1.heap vs kvs ∧ s1.heap.DictOfH (tupleKind (mixKind prog w)) s.heap.objs.size [] ∧
      ∀ h' tk, h'.DictOfH (tupleKind (mixKind prog w)) s.heap.objs.size (mergedH [] kvs) → Heap.SameBut s.heap.objs.size s1.heap h' → Q (.ref s.heap.objs.size) { s1 with heap := h', toks := tk }) E
      { s with heap := s.heap.push { cls := Value.type "dict", data := Data.dict #[] } }) : wpAny (model prog w) A (eval (Expr.Dict keys values pos) env) Q E s := by
  have hn := pairTrees_length keys values env pos hall hl
  have hne : pairTrees keys values env pos ≠ [] := fun he => h0 (List.length_eq_zero_iff.mp (by rw [← hn, he]; rfl))
  rw [arm_eval_Dict, zip_pairTrees keys values env pos hall hl, dictDisplay_pairs _ hne (by omega)]
  refine wpAny_bind (wpAny_standAt (wpAny_bind (subDictH hu (by omega) (wpAny_mono h (fun vs s1 h1 => ?_) fun _ _ e => e))))
  obtain ⟨kvs, hc, hm, hq⟩ := h1
  exact ⟨kvs, hc, hm, fun h' tk a b => wpAny_pure (hq h' tk a b)⟩
end
/-! ### the layer's rule -/
def KPs (H : Hp) : List (V × V) → List (List L2.Key × V) → Prop := Paired fun x kv => ∃ b, x.1 = V.ref b ∧ H b = some (.tup (kv.1.map kV)) ∧ x.2 = kv.2
def mergeT (kvs more : List (List L2.Key × V)) : List (List L2.Key × V) := more.foldl (fun acc kv => putK acc kv.1 kv.2) kvs
theorem carT_of {P : Program} {w : World} {H : Hp} {h : Heap} (ok : HOk P w H h) : ∀ {ps : List (V × V)} {kvs : List (List L2.Key × V)} {ws : List (Value × Value)}, KPs H ps kvs → VV ps ws → ∃ qs, CarT (prog := P) (w := w) h ws qs ∧ KT H kvs qs
  | _, _, _, .nil, .nil => ⟨[], .nil, .nil⟩
  | p :: ps, kv :: kvs, v :: ws, .cons ⟨b, e1, e2, e3⟩ t, .cons r rt => by
    obtain ⟨qs, h1, h2⟩ := carT_of ok t rt
    obtain ⟨r1, r2⟩ := r
    rw [e1] at r1
    obtain r1 : v.1 = Value.ref b := r1
    rw [e3] at r2
    exact ⟨(kv.1, b, v.2) :: qs, .cons ⟨r1, rfl, key_of ok e2⟩ h1, .cons ⟨rfl, e2, r2⟩ h2⟩
theorem mergeT_kt {H : Hp} : ∀ {more kvs : List (List L2.Key × V)} {qs xs : List (List L2.Key × Addr × Value)}, KT H more qs → KT H kvs xs → KT H (mergeT kvs more) (mergedH xs qs)
  | _, kvs, _, xs, .nil, h => h
  | p :: more, kvs, q :: qs, xs, .cons ⟨a, b, c⟩ t, h => by
    show KT H (mergeT (putK kvs p.1 p.2) more) (mergedH (storedH xs q.1 q.2.1 q.2.2) qs)
    rw [← a]
    exact mergeT_kt t (h.put p.1 b c)
theorem KT.upd {H : Hp} {a : Addr} {o : HO} (ha : ∀ xs, H a ≠ some (.tup xs)) : ∀ {kvs : List (List L2.Key × V)} {qs : List (List L2.Key × Addr × Value)}, KT H kvs qs → KT (upd H a o) kvs qs
  | _, _, .nil => .nil
  | _, _, .cons ⟨x, y, z⟩ t => .cons ⟨x, by rw [upd_ne fun e => ha _ (by rw [← e]; exact y)]; exact y, z⟩ (KT.upd ha t)
theorem length_mergeT : ∀ (more kvs : List (List L2.Key × V)), (mergeT kvs more).length ≤ kvs.length + more.length
  | [], kvs => Nat.le_refl _
  | p :: more, kvs => by
    have h := length_mergeT more (putK kvs p.1 p.2)
    have h2 := length_putK kvs p.1 p.2
    show (mergeT (putK kvs p.1 p.2) more).length ≤ kvs.length + (more.length + 1)
    omega
def tDispT (trs : List (TE × TE)) : TE := fun σ H Q => ∀ p, H p = none → tPairs trs σ (upd H p (.dT [])) fun ps H2 => H2 p = some (.dT []) ∧ ∃ kvs, KPs H2 ps kvs ∧ kvs.length ≤ 15 ∧ Q (.ref p) (upd H2 p (.dT (mergeT [] kvs)))
theorem pe_dispT {X : Cx} {pos : Pos} {keys : List (Option Expr)} {values : List Expr} {trs : List (TE × TE)} (hu : X.A.units < cLine) (h : PPs X pos keys values trs) (hall : (keys.all fun x => x.isSome) = true) (hl : keys.length = values.length) (h0 : keys ≠ []) (h15 : keys.length ≤ 15) :
    PE X (Expr.Dict keys values pos) (tDispT trs) := ⟨fun pins s σ H Q I q => by
  have hn := I.hok.fresh (Nat.le_refl s.heap.objs.size)
  have I1 : Inv X pins σ (upd H s.heap.objs.size (.dT [])) { s with heap := s.heap.push { cls := Value.type "dict", data := Data.dict #[] } } := I.laid (fun x x_1 q => Heap.get?_push_of_some _ q) (Nat.le_refl _) (dt_empty s.heap I.big)
  refine wpDictH hu hall hl h0 h15 (wpAny_mono (h.run pins _ σ _ _ I1 (q s.heap.objs.size hn)) (fun ws s2 z => ?_) fun _ _ e => e)
  obtain ⟨ps, H2, I2, rel, e, kvs, kp, lk, q2⟩ := z
  obtain ⟨qs, hc, kt⟩ := carT_of I2.hok kp rel
  obtain ⟨z1, hd, xs0, kt0, dd⟩ := dt_of I2.hok e
  have ex : xs0 = [] := by cases kt0; rfl
  subst ex
  refine ⟨qs, hc, dd, fun h' tk dd' hs => ⟨.ref s.heap.objs.size, upd H2 s.heap.objs.size (.dT (mergeT [] kvs)), ?_, rfl, q2⟩⟩
  have he : ∃ q, h'.get? s.heap.objs.size = some q := by
    obtain ⟨o, _, _, ho, _⟩ := dd'
    exact ⟨o, ho⟩
  obtain ⟨o, es, ep, ho, hx, hd2, he2, hk2, hn2⟩ := dd'
  refine d_write I2 (by rw [e]; trivial) hs he ⟨?_, hd, _, KT.upd (fun xs z => ?_) (mergeT_kt kt kt0), o, es, ep, ho, hx, hd2, he2, hn2⟩
  · have := length_mergeT kvs []
    rw [List.length_nil, Nat.zero_add] at this
    exact Nat.le_trans (Nat.le_trans this lk) (by decide)
  · rw [e] at z
    cases z⟩
/-! ### over the store -/
def putTD (kvs : List (List L2.Key × D)) (k : List L2.Key) (v : D) : List (List L2.Key × D) :=
  if (kvs.any fun kv => decide (kv.1 = k)) = true then kvs.map (fun kv => if kv.1 = k then (kv.1, v) else kv) else kvs ++ [(k, v)]
def mergeTD (kvs more : List (List L2.Key × D)) : List (List L2.Key × D) := more.foldl (fun acc kv => putTD acc kv.1 kv.2) kvs
theorem anyT_rep {K : PySem.W.Frag} {μ : Mu} {H : Hp} {k : List L2.Key} : ∀ {xs : List (List L2.Key × V)} {ds : List (List L2.Key × D)}, RepK K μ H xs ds → (xs.any fun kv => decide (kv.1 = k)) = ds.any fun kv => decide (kv.1 = k)
  | [], [], _ => rfl
  | [], q :: ds, h => by have := h.1; simp at this
  | p :: xs, [], h => by have := h.1; simp at this
  | p :: xs, q :: ds, ⟨h1, h2⟩ => by
    rw [List.map_cons, List.map_cons] at h1 h2
    cases h2 with
    | cons r t => rw [List.any_cons, List.any_cons, (List.cons.inj h1).1, anyT_rep ⟨(List.cons.inj h1).2, t⟩]
theorem replT_rep {K : PySem.W.Frag} {μ : Mu} {H : Hp} {k : List L2.Key} {v : V} {d : D} (r0 : Rep K μ H v d) : ∀ {xs : List (List L2.Key × V)} {ds : List (List L2.Key × D)}, RepK K μ H xs ds → RepK K μ H (xs.map fun kv => if kv.1 = k then (kv.1, v) else kv) (ds.map fun kv => if kv.1 = k then (kv.1, d) else kv)
  | [], [], h => h
  | [], q :: ds, h => by have := h.1; simp at this
  | p :: xs, [], h => by have := h.1; simp at this
  | p :: xs, q :: ds, ⟨h1, h2⟩ => by
    rw [List.map_cons, List.map_cons] at h1 h2
    cases h2 with
    | cons r t =>
      obtain ⟨i1, i2⟩ := replT_rep r0 (k := k) ⟨(List.cons.inj h1).2, t⟩
      have e := (List.cons.inj h1).1
      unfold RepK
      rw [List.map_cons, List.map_cons, List.map_cons, List.map_cons, List.map_cons, List.map_cons]
      by_cases hk : q.1 = k
      · rw [if_pos hk, if_pos (e.trans hk)]
        exact ⟨by rw [i1, e], .cons r0 i2⟩
      · rw [if_neg hk, if_neg (fun z => hk (e.symm.trans z))]
        exact ⟨by rw [i1, e], .cons r i2⟩
theorem putT_rep {K : PySem.W.Frag} {μ : Mu} {H : Hp} {k : List L2.Key} {v : V} {d : D} {xs : List (List L2.Key × V)} {ds : List (List L2.Key × D)} (h : RepK K μ H xs ds) (r : Rep K μ H v d) : RepK K μ H (putK xs k v) (putTD ds k d) := by
  unfold putK putTD
  rw [anyT_rep h]
  split
  · exact replT_rep r h
  · refine ⟨by rw [List.map_append, List.map_append, h.1]; rfl, ?_⟩
    rw [List.map_append, List.map_append]
    exact RepL.snoc r h.2
theorem mergeT_rep {K : PySem.W.Frag} {μ : Mu} {H : Hp} : ∀ {more : List (List L2.Key × V)} {md : List (List L2.Key × D)} {xs : List (List L2.Key × V)} {ds : List (List L2.Key × D)}, RepK K μ H more md → RepK K μ H xs ds → RepK K μ H (mergeT xs more) (mergeTD ds md)
  | [], [], xs, ds, _, h => h
  | [], q :: md, _, _, h, _ => by have := h.1; simp at this
  | p :: more, [], _, _, h, _ => by have := h.1; simp at this
  | p :: more, q :: md, xs, ds, ⟨h1, h2⟩, h => by
    rw [List.map_cons, List.map_cons] at h1 h2
    cases h2 with
    | cons r t =>
      show RepK K μ H (mergeT (putK xs p.1 p.2) more) (mergeTD (putTD ds q.1 q.2) md)
      have e := (List.cons.inj h1).1
      rw [e]
      exact mergeT_rep ⟨(List.cons.inj h1).2, t⟩ (putT_rep h r)
theorem cell_dT {K : PySem.W.Frag} {μ : Mu} {H : Hp} {s : S} {n : Nat} {a : Addr} {ds : List (List L2.Key × D)} (hs : SimS K μ H s) (ha : μ.c[n]? = some a) (e : s[n]? = some (.dT ds)) : ∃ xs, H a = some (.dT xs) ∧ RepK K μ H xs ds := by
  obtain ⟨b, hb, hc⟩ := hs.cell n _ e
  rw [ha] at hb
  cases hb
  exact hc
theorem put_cellT {K : PySem.W.Frag} {μ : Mu} {H : Hp} {s : S} {n : Nat} {a : Addr} {xs ys : List (List L2.Key × V)} {kvs : List (List L2.Key × D)} (hs : SimS K μ H s) (hn : μ.c[n]? = some a) (h : H a = some (.dT xs)) (l : RepK K μ H ys kvs) :
    Grow μ H μ (upd H a (.dT ys)) ∧ SimS K μ (upd H a (.dT ys)) (s.set n (.dT kvs)) := by
  have hm : Mut (H a) := by rw [h]; trivial
  have g := grow_put (μ := μ) (H := H) (a := a) (o := .dT ys) hm (List.mem_of_getElem? hn)
  exact ⟨g, hs.put hn hm ⟨_, upd_same, l.grow g⟩⟩
/-- a tuple display whose parts are integers and texts -/
def keyM (mr : Env → M (List D)) (env : Env) : M (List L2.Key) := mr env >>= fun ds => match mapO dKey ds with
  | some ks => if ds.length ≤ 100000 then Pure.pure ks else stuck
  | none => stuck
def TKof (K : PySem.W.Frag) (E : XK) (m : Env → M (List L2.Key)) : TE := fun σ H Q => ∃ μ env s, SimV K μ H σ env ∧ SimS K μ H s ∧ Post K E μ H (m env s) (fun ks _ _ H' => ∀ p, H' p = some (.tup (ks.map kV)) → Q (.ref p) H')
def SKe (X : Cx) (E : XK) (e : Expr) (m : Env → M (List L2.Key)) : Prop := PE X e (TKof X.K E m)
theorem keysT_rep {K : PySem.W.Frag} {μ : Mu} {H : Hp} : ∀ {ds : List D} {vs : List V} {ks : List L2.Key}, mapO dKey ds = some ks → RepL K μ H vs ds → vs = ks.map kV
  | [], _, ks, e, .nil => by cases e; rfl
  | d :: ds, _, ks, e, .cons r t => by
    unfold mapO at e
    cases q : dKey d with
    | none => rw [q] at e; cases e
    | some k =>
      rw [q] at e
      cases q2 : mapO dKey ds with
      | none => rw [q2] at e; cases e
      | some ms =>
        rw [q2] at e
        cases e
        rw [dKey_rep q r, keysT_rep q2 t, List.map_cons]
section
variable {X : Cx} {E : XK} {es : List Expr} {mr : Env → M (List D)} {pos : Pos}
theorem se_key {k : Nat} (h : SA X E es mr) : SKe X E (.Tuple es k pos) (keyM mr) := PE.imp (pe_tup h) (by
  rintro σ H Q ⟨μ, env, s, hv, hs, post⟩
  refine ⟨μ, env, s, hv, hs, (Post.bind post).mono fun ds s1 μ1 H1 g1 hs1 p1 vs hl => ?_⟩
  cases e : mapO dKey ds with
  | none => simp only [e] at p1; exact (show False from p1).elim
  | some ks =>
    simp only [e] at p1
    split at p1
    · rename_i hz
      refine ⟨by rw [hl.length]; exact sz_ok hz, fun p hp => ?_⟩
      have p2 : Post X.K E μ1 H1 (.ok ks s1 : R (List L2.Key)) _ := p1
      exact p2 _ _ (grow_new hp) (hs1.lay hp) p (by rw [upd_same, keysT_rep e hl])
    · exact (show False from p1).elim)
/-- the pairs of a display -/
def tNil (_ : Env) : M (List (List L2.Key × D)) := Pure.pure []
def tCons (mk : Env → M (List L2.Key)) (mv : Env → M D) (mr : Env → M (List (List L2.Key × D))) (env : Env) : M (List (List L2.Key × D)) := mk env >>= fun k => mv env >>= fun v => mr env >>= fun r => Pure.pure ((k, v) :: r)
def TPTof (K : PySem.W.Frag) (E : XK) (m : Env → M (List (List L2.Key × D))) : L2.St → Hp → (List (V × V) → Hp → Prop) → Prop := fun σ H Q => ∃ μ env s, SimV K μ H σ env ∧ SimS K μ H s ∧ Post K E μ H (m env s) (fun ds _ μ' H' => ∀ ps kvs, KPs H' ps kvs → RepK K μ' H' kvs ds → Q ps H')
structure STs2 (X : Cx) (E : XK) (pos : Pos) (keys : List (Option Expr)) (values : List Expr) (m : Env → M (List (List L2.Key × D))) : Prop where
  run : ∃ trs, PPs X pos keys values trs ∧ ∀ σ H Q, TPTof X.K E m σ H Q → tPairs trs σ H Q
theorem stt_nil : STs2 X E pos [] [] tNil := ⟨[], pps_nil, by
  rintro σ H Q ⟨μ, env, s, hv, hs, post⟩
  exact Post.now (a := ([] : List (List L2.Key × D))) post hs [] [] .nil ⟨rfl, .nil⟩⟩
theorem stt_cons {k v : Expr} {ks : List (Option Expr)} {vs : List Expr} {mk : Env → M (List L2.Key)} {mv : Env → M D} {mr : Env → M (List (List L2.Key × D))} (hk : SKe X E k mk) (hv : SE X E v mv) (hr : STs2 X E pos ks vs mr) : STs2 X E pos (some k :: ks) (v :: vs) (tCons mk mv mr) := by
  obtain ⟨trs, h1, h2⟩ := hr
  refine ⟨(TKof X.K E mk, TEof X.K E mv) :: trs, pps_cons hk hv h1, ?_⟩
  rintro σ H Q ⟨μ, env, s, hv, hs, post⟩
  refine ⟨μ, env, s, hv, hs, (Post.bind post).mono fun dk s1 μ1 H1 g1 hs1 p1 b hb => ⟨μ1, env, s1, hv.grow g1, hs1, (Post.bind p1).mono fun dv s2 μ2 H2 g2 hs2 p2 y hy => h2 _ _ _ ⟨μ2, env, s2, (hv.grow g1).grow g2, hs2, (Post.bind p2).mono fun r s3 μ3 H3 g3 hs3 p3 ps kvs hps hrk => ?_⟩⟩⟩
  refine Post.now (a := (dk, dv) :: r) p3 hs3 ((.ref b, y) :: ps) ((dk, y) :: kvs) (.cons ⟨b, rfl, g3.tup _ _ (g2.tup _ _ hb), rfl⟩ hps) ⟨?_, ?_⟩
  · rw [List.map_cons, List.map_cons, hrk.1]
  · exact .cons (Rep.grow g3 _ _ hy) hrk.2
def fillT (n : Nat) (ds : List (List L2.Key × D)) : M D := fun s => match s[n]? with
  | some (.dT []) => if ds.length ≤ 15 then .ok (.ptr n) (s.set n (.dT (mergeTD [] ds))) else .stuck
  | _ => .stuck
def dispTM (mr : Env → M (List (List L2.Key × D))) (env : Env) : M D := allocC (.dT []) >>= fun p => mr env >>= fun ps => match p with
  | .ptr n => fillT n ps
  | _ => stuck
theorem se_dispT {keys : List (Option Expr)} {values : List Expr} {mr : Env → M (List (List L2.Key × D))} (hu : X.A.units < cLine) (h : STs2 X E pos keys values mr) (hall : keys.all (·.isSome) = true := by rfl) (hl : keys.length = values.length := by rfl) (h0 : keys ≠ [] := by exact List.cons_ne_nil _ _)
    (h15 : keys.length ≤ 15 := by decide) : SE X E (.Dict keys values pos) (dispTM mr) := by
  obtain ⟨trs, h1, h2⟩ := h
  refine PE.imp (pe_dispT hu h1 hall hl h0 h15) ?_
  rintro σ H Q ⟨μ, env, s, hv, hs, post⟩ p hp
  have hs2 : SimS X.K (μ.add p) (upd H p (.dT [])) (s ++ [.dT []]) := hs.alloc hp ⟨[], upd_same, rfl, .nil⟩
  have g := grow_cell (μ := μ) (o := .dT []) hp
  have post1 : Post X.K E (μ.add p) (upd H p (.dT [])) ((mr env >>= fun ps => fillT s.length ps) (s ++ [.dT []])) (okD X.K Q) := Post.later g post
  refine h2 _ _ _ ⟨μ.add p, env, _, hv.grow g, hs2, (Post.bind post1).mono fun ds s1 μ1 H1 g1 hs1 p1 ps kvs hps hrk => ?_⟩
  have hat : μ1.c[s.length]? = some p := g1.at (add_at hs)
  unfold fillT at p1
  cases ec : s1[s.length]? with
  | none => simp only [ec] at p1; exact (show False from p1).elim
  | some cl =>
    simp only [ec] at p1
    split at p1
    · rename_i e1
      cases e1
      split at p1
      · rename_i hz
        obtain ⟨xs, f1, f2⟩ := cell_dT hs1 hat ec
        have fx : xs = [] := by
          have := f2.length
          exact List.length_eq_zero_iff.mp this
        subst fx
        refine ⟨f1, kvs, hps, by rw [hrk.length]; exact hz, ?_⟩
        obtain ⟨g2, hs3⟩ := put_cellT hs1 hat f1 (mergeT_rep hrk (xs := []) (ds := []) ⟨rfl, .nil⟩)
        exact p1 _ _ g2 hs3 (.ref p) (.ptr hat)
      · exact (show False from p1).elim
    · exact (show False from p1).elim
/-! ### stores -/
def setTD (o : D) (k : List L2.Key) (v : D) : M Unit := match o with
  | .ptr n => fun s => match s[n]? with
    | some (.dT kvs) => if kvs.length < 100000 then .ok () (s.set n (.dT (putTD kvs k v))) else .stuck
    | _ => .stuck
  | _ => stuck
def gSubT (mo : Env → M D) (mk : Env → M (List L2.Key)) (v : D) (env : Env) : M Env := mo env >>= fun o => mk env >>= fun k => setTD o k v >>= fun _ => Pure.pure env
theorem setT_ok {K : PySem.W.Frag} {μ : Mu} {H : Hp} {s : S} {o v : D} {k : List L2.Key} {x z : V} {b : Addr} {q : Unit → S → Mu → Hp → Prop} (hs : SimS K μ H s) (ro : Rep K μ H x o) (hb : H b = some (.tup (k.map kV))) (rv : Rep K μ H z v) (post : Post K E μ H (setTD o k v s) q) :
    ∃ a H', x = .ref a ∧ DPut H a (.ref b) z H' ∧ ∃ s', Grow μ H μ H' ∧ SimS K μ H' s' ∧ q () s' μ H' := by
  cases ro with
  | @ptr a n hn =>
    unfold setTD at post
    cases ec : s[n]? with
    | none => simp only [ec] at post; exact (show False from post).elim
    | some cl =>
      cases cl with
      | dT kvs =>
        simp only [ec] at post
        split at post
        · rename_i hz
          obtain ⟨xs, h1, h2⟩ := cell_dT hs hn ec
          obtain ⟨g, hs'⟩ := put_cellT hs hn h1 (putT_rep (k := k) h2 rv)
          exact ⟨a, _, rfl, .inr ⟨xs, k, b, h1, rfl, hb, line_of (by rw [h2.length]; exact hz), rfl⟩, _, g, hs', post _ _ g hs'⟩
        · exact (show False from post).elim
      | _ => simp only [ec] at post; exact (show False from post).elim
  | _ => exact (show False from post).elim
theorem sg_subT {a b : Expr} {ma : Env → M D} {mk : Env → M (List L2.Key)} (hu : X.A.units + 1 < cLine) (ha : SE X E a ma) (hb : SKe X E b mk) (hh : ∀ v, assign (.Subscript a b pos) X.env v = (do
      let ov ← holding [v] (eval a X.env)
      let iv ← holding [v, ov] (eval b X.env)
      standAt pos
      holding [v, ov, iv] (setItem ov iv v)
      release [v, ov, iv] []) := by intro _; rfl) : SG X E (.Subscript a b pos) (gSubT ma mk) := PG.imp (pg_sub ha hb (set_dict hu) hh) (by
  rintro v σ H Q ⟨μ, env, s, d, hv, hs, r, post⟩
  refine ⟨μ, env, s, hv, hs, (Post.bind post).mono fun o s1 μ1 H1 g1 hs1 p1 x hx => ?_⟩
  refine ⟨μ1, env, s1, hv.grow g1, hs1, (Post.bind p1).mono fun k s2 μ2 H2 g2 hs2 p2 b hb => ?_⟩
  obtain ⟨a, H', e1, h1, s3, g3, hs3, q3⟩ := setT_ok hs2 (Rep.grow g2 o x hx) hb (Rep.grow (g1.trans g2) d v r) (Post.bind p2)
  exact ⟨a, H', e1, h1, Post.now (a := env) q3 hs3 _ (((hv.grow g1).grow g2).grow g3)⟩)
/-! ### list(d) -/
def keyD : L2.Key → D
  | .inl i => .int i
  | .inr x => .str x
def listT (x : D) : M D := match x with
  | .ptr n => fun s => match s[n]? with
    | some (.dT kvs) => .ok (.vls (kvs.map fun kv => .tup (kv.1.map keyD))) s
    | _ => .stuck
  | _ => stuck
theorem keyD_rep {K : PySem.W.Frag} {μ : Mu} {H : Hp} : ∀ ks : List L2.Key, RepL K μ H (ks.map kV) (ks.map keyD)
  | [] => .nil
  | .inl i :: ks => .cons (.int i) (keyD_rep ks)
  | .inr x :: ks => .cons (.str x) (keyD_rep ks)
theorem isKeys_rep {K : PySem.W.Frag} {μ : Mu} {H : Hp} : ∀ {xs : List (List L2.Key × V)} {kvs : List (List L2.Key × D)} {bs : List Addr}, xs.map (·.1) = kvs.map (·.1) → IsKeys H xs bs → RepL K μ H (bs.map V.ref) (kvs.map fun kv => .tup (kv.1.map keyD))
  | [], [], _, _, .nil => .nil
  | [], q :: kvs, _, e, _ => by simp at e
  | x :: xs, [], _, e, _ => by simp at e
  | x :: xs, q :: kvs, b :: bs, e, .cons h t => by
    rw [List.map_cons, List.map_cons] at e
    injection e with e1 e2
    refine .cons (.tup (SqT.of h) ?_) (isKeys_rep e2 t)
    rw [e1]
    exact keyD_rep _
theorem cr_listT (hc : X.calm = true) : CallR X (.type "list") (RLof X.K E (fun1 listT)) := CallR.imp (call_list_dT hc) (rl_1 fun μ s d v H Q hs r post => by
  unfold listT at post
  cases r with
  | @ptr a n hn =>
    cases ec : s[n]? with
    | none => simp only [ec] at post; exact (show False from post).elim
    | some cl =>
      simp only [ec] at post
      cases cl with
      | dT kvs =>
        obtain ⟨xs, h1, h2⟩ := cell_dT hs hn ec
        exact ⟨a, xs, rfl, .inl h1, fun p bs hp hk => post_vls hs (isKeys_rep h2.1 hk) post p hp⟩
      | _ => exact (show False from post).elim
  | _ => exact (show False from post).elim)
end
end PL

/-! PL23: zip; targets of any shape in comprehensions; comprehensions of two parts. -/
namespace PL
open PySem PySem.Spec PyProof.Rows L2
/-! ### zip -/
def seqC (s : S) : D → Option (List D × Option (Nat × List D))
  | .flst ds => some (ds, none)
  | .vls ds => some (ds, none)
  | .ptr n => match s[n]? with
    | some (.lst ds) => some (ds, some (n, ds))
    | _ => none
  | _ => none
def zipI (xs ys : List D) : List D := List.zipWith (fun x y => .tup [x, y]) xs ys
def zipD (ds : List D) : M Src := fun s => match ds with
  | [.tup xs, .tup ys] => .ok ⟨zipI xs ys, none⟩ s
  | [x, y] => (match seqC s x, seqC s y with
    | some (xs, none), some (ys, c) => .ok ⟨zipI xs ys, c⟩ s
    | some (xs, c), some (ys, none) => .ok ⟨zipI xs ys, c⟩ s
    | _, _ => .stuck)
  | _ => .stuck
/-- a list that a walk may go along: where it stands -/
def StL (K : PySem.W.Frag) (μ : Mu) (H : Hp) (a : Addr) (xs : List V) (ds : List D) (c : Option (Nat × List D)) : Prop := ∀ μ' H' s, GrowW μ H μ' H' → SimS K μ' H' s → (match c with
  | none => True
  | some (n, es) => s[n]? = some (.lst es)) → ∃ ys, SqL K H' a ys ∧ RepL K μ' H' ys ds
theorem seqC_rep {K : PySem.W.Frag} {μ : Mu} {H : Hp} {s : S} {d : D} {v : V} {ds : List D} {c : Option (Nat × List D)} (hs : SimS K μ H s) (r : Rep K μ H v d) (e : seqC s d = some (ds, c)) : ∃ a xs, v = .ref a ∧ SqL K H a xs ∧ StL K μ H a xs ds c := by
  unfold seqC at e
  cases r with
  | @flst a xs es ht hl =>
    cases e
    exact ⟨a, xs, rfl, ht.sqL, fun μ' H' s' g hs' _ => ⟨xs, (g.frzL ht).sqL, RepL.growW g _ _ hl⟩⟩
  | @vls a xs es ht hl =>
    cases e
    exact ⟨a, xs, rfl, ht.sqL, fun μ' H' s' g hs' _ => ⟨xs, (g.vls ht).sqL, RepL.growW g _ _ hl⟩⟩
  | @ptr a n hn =>
    cases ec : s[n]? with
    | none => simp only [ec] at e; cases e
    | some cl =>
      cases cl with
      | lst es =>
        simp only [ec] at e
        cases e
        obtain ⟨xs, h1, hl⟩ := cell_lst hs hn ec
        exact ⟨a, xs, rfl, SqL.of h1, fun μ' H' s' g hs' ok => by
          obtain ⟨ys, k1, k2⟩ := cell_lst hs' (g.at hn) ok
          exact ⟨ys, SqL.of k1, k2⟩⟩
      | _ => simp only [ec] at e; cases e
  | _ => cases e
theorem StL.none {K : PySem.W.Frag} {μ : Mu} {H : Hp} {a : Addr} {xs : List V} {ds : List D} {c : Option (Nat × List D)} (h : StL K μ H a xs ds none) : StL K μ H a xs ds c := fun μ' H' s g hs _ => h μ' H' s g hs trivial
theorem zipI_get {xs ys : List D} {i : Nat} {d : D} (e : (zipI xs ys)[i]? = some d) : ∃ x y, xs[i]? = some x ∧ ys[i]? = some y ∧ d = .tup [x, y] := by
  unfold zipI at e
  rw [List.getElem?_zipWith] at e
  cases h1 : xs[i]? with
  | none => rw [h1] at e; cases e
  | some x =>
    cases h2 : ys[i]? with
    | none => rw [h1, h2] at e; cases e
    | some y =>
      rw [h1, h2] at e
      exact ⟨x, y, rfl, rfl, (Option.some.inj e).symm⟩
theorem zipI_len {xs ys : List D} : (zipI xs ys).length = min xs.length ys.length := List.length_zipWith
theorem good_zip {K : PySem.W.Frag} {μ : Mu} {H : Hp} {a b : Addr} {xs ys : List V} {ds es : List D} {c : Option (Nat × List D)} (h1 : StL K μ H a xs ds c) (h2 : StL K μ H b ys es c) : GoodIt K μ H (Itz K a b) ⟨zipI ds es, c⟩ := fun μ' H' s g hs ok => by
  obtain ⟨us, k1, l1⟩ := h1 μ' H' s g hs ok
  obtain ⟨vs, k2, l2⟩ := h2 μ' H' s g hs ok
  refine ⟨fun i d e => ?_, us, vs, k1, k2, ?_⟩
  · obtain ⟨x, y, e1, e2, rfl⟩ := zipI_get e
    obtain ⟨u, hu, ru⟩ := l1.get e1
    obtain ⟨v, hv, rv⟩ := l2.get e2
    refine ⟨⟨us, vs, u, v, k1, k2, hu, hv⟩, fun w H2 y2 => ?_⟩
    obtain ⟨T, x', y', rfl, hT, rfl, q1, q2⟩ := y2
    have e3 : u = x' := Option.some.inj (hu.symm.trans (q1 us k1))
    have e4 : v = y' := Option.some.inj (hv.symm.trans (q2 vs k2))
    subst e3 e4
    exact ⟨grow_new hT, hs.lay hT, .tup (SqT.of upd_same) (RepL.grow (grow_new hT) _ _ (.cons ru (.cons rv .nil)))⟩
  · have a1 := l1.length
    have a2 := l2.length
    show us.length ≤ (zipI ds es).length ∨ vs.length ≤ (zipI ds es).length
    rw [zipI_len]
    omega
theorem good_zipT {K : PySem.W.Frag} {μ : Mu} {H : Hp} {a b : Addr} {xs ys : List V} {ds es : List D} (h1 : SqT K H a xs) (l1 : RepL K μ H xs ds) (h2 : SqT K H b ys) (l2 : RepL K μ H ys es) : GoodIt K μ H (RZ.ItzT K a b) ⟨zipI ds es, none⟩ := fun μ' H' s g hs ok => by
  have k1 := g.sqT h1
  have k2 := g.sqT h2
  have m1 := RepL.growW g _ _ l1
  have m2 := RepL.growW g _ _ l2
  refine ⟨fun i d e => ?_, xs, ys, k1, k2, ?_⟩
  · obtain ⟨x, y, e1, e2, rfl⟩ := zipI_get e
    obtain ⟨u, hu, ru⟩ := m1.get e1
    obtain ⟨v, hv, rv⟩ := m2.get e2
    refine ⟨⟨xs, ys, u, v, k1, k2, hu, hv⟩, fun w H2 y2 => ?_⟩
    obtain ⟨T, x', y', rfl, hT, rfl, q1, q2⟩ := y2
    have e3 : u = x' := Option.some.inj (hu.symm.trans (q1 xs k1))
    have e4 : v = y' := Option.some.inj (hv.symm.trans (q2 ys k2))
    subst e3 e4
    exact ⟨grow_new hT, hs.lay hT, .tup (SqT.of upd_same) (RepL.grow (grow_new hT) _ _ (.cons ru (.cons rv .nil)))⟩
  · have a1 := l1.length
    have a2 := l2.length
    show xs.length ≤ (zipI ds es).length ∨ ys.length ≤ (zipI ds es).length
    rw [zipI_len]
    omega
section
variable {X : Cx} {E : XK} {e e2 : Expr} {mr : Env → M (List D)} {p pos tpos : Pos} {elts : List Expr} {kk : Nat}
theorem si_zip (hg : Gl X "zip") (hm : X.mg "zip" = none) (ha : SA X E [e, e2] mr) (hs0 : starEach [e, e2] X.env = (false, eval e X.env) :: starEach [e2] X.env := by rfl) (hb : ((backTo pos (starEach [e2] X.env)).any fun x => x.fst) = false := by rfl) :
    SI X E (.Tuple elts kk tpos) (.Call (.Name "zip" p) [e, e2] [] pos) (srcA zipD mr) := PI.imp (RZ.pi_zipA hg hm ha hs0 hb) (by
  rintro σ H R ⟨μ, env, s, hv, hs, post⟩
  refine ⟨μ, env, s, hv, hs, (Post.bind post).mono fun ds s1 μ1 H1 g1 hs1 p1 vs hl => ?_⟩
  unfold zipD at p1
  split at p1
  · rename_i xs ys
    obtain ⟨v, w, rfl, r, r'⟩ := repL2 hl
    cases r with
    | @tup a us _ h1 l1 =>
      cases r' with
      | @tup b ws _ h2 l2 =>
        exact ⟨a, b, us, ws, rfl, .inr ⟨h1, h2, Post.now (a := (⟨zipI xs ys, none⟩ : Src)) p1 hs1 _ (good_zipT h1 l1 h2 l2)⟩⟩
  · rename_i x y _
    obtain ⟨v, w, rfl, r, r'⟩ := repL2 hl
    split at p1
    · rename_i xs ys c e1 e3
      obtain ⟨a, us, rfl, h1, k1⟩ := seqC_rep hs1 r e1
      obtain ⟨b, ws, rfl, h2, k2⟩ := seqC_rep hs1 r' e3
      exact ⟨a, b, us, ws, rfl, .inl ⟨h1, h2, Post.now (a := (⟨zipI xs ys, c⟩ : Src)) p1 hs1 _ (good_zip k1.none k2)⟩⟩
    · rename_i xs c ys _ e1 e3
      obtain ⟨a, us, rfl, h1, k1⟩ := seqC_rep hs1 r e1
      obtain ⟨b, ws, rfl, h2, k2⟩ := seqC_rep hs1 r' e3
      exact ⟨a, b, us, ws, rfl, .inl ⟨h1, h2, Post.now (a := (⟨zipI xs ys, c⟩ : Src)) p1 hs1 _ (good_zip k1 k2.none)⟩⟩
    · exact (show False from p1).elim
  · exact (show False from p1).elim)
end
/-! ### targets of any shape -/
section
variable {K : PySem.W.Frag} {E : XK}
def GtG (K : PySem.W.Frag) (E : XK) (g : D → Env → M Env) (gt : TG) (vs : List Nat) : Prop := ∀ v σ0 σ H Q, wipe σ vs = wipe σ0 vs → (∃ μ env s d, SimV K μ H σ env ∧ SimS K μ H s ∧ Rep K μ H v d ∧ Post K E μ H (g d env s) (fun env' _ μ' H' => ∀ σ', SimV K μ' H' σ' env' → wipe σ' vs = wipe σ0 vs → Q σ' H')) → gt v σ H Q
def GtsG (K : PySem.W.Frag) (E : XK) (g : List D → Env → M Env) (gt : TGs) (vs : List Nat) : Prop := ∀ v σ0 σ H Q, wipe σ vs = wipe σ0 vs → (∃ μ env s d, SimV K μ H σ env ∧ SimS K μ H s ∧ RepL K μ H v d ∧ Post K E μ H (g d env s) (fun env' _ μ' H' => ∀ σ', SimV K μ' H' σ' env' → wipe σ' vs = wipe σ0 vs → Q σ' H')) → gt v σ H Q
theorem gt_of {g : D → Env → M Env} {gt : TG} {vs : List Nat} (h : GtG K E g gt vs) : GtOk K E g gt vs := by
  rintro v σ H Qg ⟨μ, env, s, d, hv, hs, r, post⟩
  exact h v σ (wipe σ vs) H _ (wipe_wipe σ vs) ⟨μ, env, s, d, hv, hs, r, post.mono fun env' s' μ' H' _ _ p σ' hv' hw => ⟨hw, p σ' hv'⟩⟩
theorem gg_name {i : Nat} {vs : List Nat} (hi : i ∈ vs) : GtG K E (gNm i) (gName i) vs := by
  rintro v σ0 σ H Qg hw ⟨μ, env, s, d, hv, hs, r, post⟩
  refine Post.now (a := env.set i (some d)) post hs _ (hv.set r i) (Eq.trans ?_ hw)
  exact wipe_same (by rw [List.length_set]) fun j hj => by
    rw [List.getElem?_set_ne (show i ≠ j from fun z => hj (z ▸ hi))]
theorem gg_nil {vs : List Nat} : GtsG K E gNilM gNil vs := by
  rintro v σ0 σ H Qg hw ⟨μ, env, s, ds, hv, hs, r, post⟩
  cases r with
  | nil => exact ⟨rfl, Post.now (a := env) post hs _ hv hw⟩
  | cons _ _ => exact (show False from post).elim
theorem gg_cons {g : D → Env → M Env} {gs : List D → Env → M Env} {gt : TG} {gts : TGs} {vs : List Nat} (h1 : GtG K E g gt vs) (h2 : GtsG K E gs gts vs) : GtsG K E (gConsM g gs) (gCons gt gts) vs := by
  rintro v σ0 σ H Qg hw ⟨μ, env, s, ds, hv, hs, r, post⟩
  cases r with
  | nil => exact (show False from post).elim
  | @cons v vs' d ds r1 r2 =>
    refine ⟨v, vs', rfl, h1 v σ0 σ H _ hw ⟨μ, env, s, d, hv, hs, r1, (Post.bind post).mono fun env1 s1 μ1 H1 g1 hs1 p1 σ1 hv1 hw1 => ?_⟩⟩
    exact h2 vs' σ0 σ1 H1 Qg hw1 ⟨μ1, env1, s1, ds, hv1, hs1, RepL.grow g1 _ _ r2, p1⟩
theorem gg_tup {n : Nat} {gs : List D → Env → M Env} {gts : TGs} {vs : List Nat} (h : GtsG K E gs gts vs) : GtG K E (gTupM n gs) (gTup K n gts) vs := by
  rintro v σ0 σ H Qg hw ⟨μ, env, s, d, hv, hs, r, post⟩
  cases r with
  | @tup a xs ds ht hl =>
    unfold gTupM at post
    simp only [] at post
    split at post
    · rename_i hn
      exact ⟨a, xs, rfl, ht, hl.length.trans hn, h xs σ0 σ H Qg hw ⟨μ, env, s, ds, hv, hs, hl, post⟩⟩
    · exact (show False from post).elim
  | _ => exact (show False from post).elim
end
end PL

/-! PL24: comprehensions of two parts. -/
namespace PL
open PySem PySem.Spec PyProof.Rows L2
def sz4M (n : Nat) : M Unit := if n ≤ 4000 then Pure.pure () else stuck
noncomputable def coll2M (r : Src) (g : D → Env → M Env) (t : Env → M Bool) (mi1 : Env → M Src) (g1 : D → Env → M Env) (t1 : Env → M Bool) (e : Env → M D) (vs1 : List Nat) (env0 : Env) : List D → M (List D)
  | [] => guardM r >>= fun _ => Pure.pure []
  | d :: ds => guardM r >>= fun _ => g d env0 >>= fun env => t env >>= fun b => if b then mi1 env >>= fun r1 => sz4M r1.items.length >>= fun _ => collM r1 g1 t1 e (wipeE env vs1) r1.items >>= fun xs => coll2M r g t mi1 g1 t1 e vs1 env0 ds >>= fun ys => Pure.pure (xs ++ ys) else coll2M r g t mi1 g1 t1 e vs1 env0 ds
/-- [e for g in r if t for g1 in r1 if t1] -/
noncomputable def comp2F (mi : Env → M Src) (g : D → Env → M Env) (t : Env → M Bool) (mi1 : Env → M Src) (g1 : D → Env → M Env) (t1 : Env → M Bool) (e : Env → M D) (vs vs1 : List Nat) (env : Env) : M D :=
  mi env >>= fun r => sz4M r.items.length >>= fun _ => coll2M r g t mi1 g1 t1 e vs1 (wipeE env vs) r.items >>= fun ys => fun s => .ok (.vls ys) s
theorem growW_hid {μ : Mu} {H : Hp} {p : Addr} {xs ys : List V} (hp : p ∈ μ.h) (e : H p = some (.lst xs)) : GrowW μ H μ (upd H p (.lst ys)) :=
  ⟨⟨[], (List.append_nil _).symm⟩, ⟨[], rfl, fun _ h => nomatch h⟩, fun a zs q => by
    rw [upd_ne fun z => by rw [z, e] at q; cases q]
    exact q, fun a o u q => by
    rw [upd_ne fun z => by rw [z, e] at q; cases q]
    exact q, fun a o q _ n => by
    rw [upd_ne fun z => n (by rw [z]; exact hp)]
    exact q, fun a h => .inl h, upd_trk⟩
section
variable {K : PySem.W.Frag} {E : XK}
theorem sz4_ok {α : Type} {n : Nat} {f : Unit → M α} {s : S} {μ : Mu} {H : Hp} {q : α → S → Mu → Hp → Prop} (h : Post K E μ H ((sz4M n >>= f) s) q) : n ≤ 4000 ∧ Post K E μ H (f () s) q := by
  unfold sz4M at h
  by_cases hl : n ≤ 4000
  · rw [if_pos hl] at h
    exact ⟨hl, h⟩
  · rw [if_neg hl] at h
    exact (show False from h).elim
theorem lc2_ok {r : Src} {J : It} {g g1 : D → Env → M Env} {gt gt1 : TG} {t t1 : Env → M Bool} {mi1 : Env → M Src} {e : Env → M D} {fin : List D → M D} {σ : L2.St} {env : Env} {vs vs1 : List Nat} {μ : Mu} {H1 : Hp} {s1 : S} {Q : VK} {Dl : Addr}
    (hv : SimV K μ H1 σ env) (hs : SimS K μ H1 s1) (hJ : GoodIt K μ H1 J r) (hlen : r.items.length ≤ 4000) (hDn : H1 Dl = none)
    (hg : GtOk K E g gt vs) (hg1 : GtOk K E g1 gt1 vs1)
    (hfin : ∀ (c u : List Addr) (H : Hp) (s : S) (acc : List D) (xs : List V), Grow μ H1 ⟨c, u ++ μ.h⟩ H → Dl ∉ u ++ μ.h → SimS K ⟨c, u ++ Dl :: μ.h⟩ H s → H Dl = some (.lst xs) → RepL K ⟨c, u ++ Dl :: μ.h⟩ H xs acc → Post K E μ H1 (fin acc s) (okD K Q) → Q (.ref Dl) H)
    (post : Post K E μ H1 ((coll2M r g t mi1 g1 t1 e vs1 (wipeE env vs) r.items >>= fin) s1) (okD K Q)) :
    ∃ W : Nat → Nat → Hp → Prop, (∃ m, W 0 m (upd H1 Dl (.lst []))) ∧ ∀ i m H, W i m H →
      (J.stop i H ∧ Q (.ref Dl) H) ∨ (J.go i H ∧ ∃ Nx : Hp → Prop, (∀ H', Nx H' → ∃ m', m' < m ∧ W (i + 1) m' H') ∧ ∀ x H', J.yld i H x H' → gt x (wipe σ vs) H' fun σ2 H2 => wipe σ2 vs = wipe σ vs ∧ TTof K E t σ2 H2 fun b H3 =>
        if b = true then TIof K E mi1 σ2 H3 fun J1 H4 => ∃ W1 : Nat → Nat → Hp → Prop, (∃ m, W1 0 m H4) ∧ ∀ j k H, W1 j k H →
          (J1.stop j H ∧ Nx H) ∨ (J1.go j H ∧ ∃ Nx1 : Hp → Prop, (∀ H', Nx1 H' → ∃ k', k' < k ∧ W1 (j + 1) k' H') ∧ ∀ x H', J1.yld j H x H' → gt1 x (wipe σ2 vs1) H' fun σ3 H5 => wipe σ3 vs1 = wipe σ2 vs1 ∧ TTof K E t1 σ3 H5 fun b H6 =>
            if b = true then TEof K E e σ3 H6 fun y H7 => ∃ acc, H7 Dl = some (.lst acc) ∧ acc.length < sizeLine ∧ Nx1 (upd H7 Dl (.lst (acc ++ [y]))) else Nx1 H6)
        else Nx H3) := by
  have nD := hs.new hDn
  let Up : Mu → Hp → Prop := fun μ' H => Grow μ H1 μ' H ∧ ∃ u, μ'.h = u ++ Dl :: μ.h ∧ Dl ∉ u ∧ ∀ p ∈ u, H1 p = none
  have inh : ∀ {μ' : Mu} {H : Hp}, Up μ' H → Dl ∈ μ'.h := fun ⟨_, u, hu, _⟩ => by
    rw [hu]
    exact List.mem_append_right _ List.mem_cons_self
  have up : ∀ {μ1 μ2 : Mu} {Ha Hb : Hp} {xs : List V} {sb : S}, Up μ1 Ha → Grow μ1 Ha μ2 Hb → SimS K μ2 Hb sb → Ha Dl = some (.lst xs) → Up μ2 Hb ∧ Hb Dl = some (.lst xs) := fun {μ1 μ2 Ha Hb xs sb} U g2 hb h => by
    have h1 := inh U
    obtain ⟨g1, u, hu, nu, ku⟩ := U
    obtain ⟨v, hv2, kv⟩ := g2.hid
    refine ⟨⟨g1.trans g2, v ++ u, by rw [hv2, hu, List.append_assoc], fun z => ?_, fun p hp => ?_⟩, g2.frm Dl _ h (hb.dis Dl (by rw [hv2]; exact List.mem_append_right _ h1))⟩
    · rcases List.mem_append.mp z with z | z
      · have := kv Dl z
        rw [h] at this
        cases this
      · exact nu z
    · rcases List.mem_append.mp hp with hp | hp
      · exact g1.trk p (kv p hp)
      · exact ku p hp
  have bump : ∀ {μ' : Mu} {H : Hp} {xs ys : List V}, Up μ' H → H Dl = some (.lst xs) → Up μ' (upd H Dl (.lst ys)) := fun {μ' H xs ys} U h => by
    obtain ⟨g1, r⟩ := U
    refine ⟨?_, r⟩
    have ne : ∀ {a : Addr} {o : HO}, H1 a = some o → a ≠ Dl := fun {a o} h1 z => by
      rw [z, hDn] at h1
      cases h1
    exact ⟨g1.pre, g1.hid, fun a o h1 => by rw [upd_ne (ne h1)]; exact g1.tup a o h1, fun a o u h1 => by rw [upd_ne (ne h1)]; exact g1.frz a o u h1, fun a o h1 n => by rw [upd_ne (ne h1)]; exact g1.frm a o h1 n, g1.new, fun a h1 => g1.trk a (upd_trk a h1)⟩
  let Tn : Nat → Hp → Prop := fun i H => ∃ μ' s' acc xs, Up μ' H ∧ SimS K μ' H s' ∧ H Dl = some (.lst xs) ∧ RepL K μ' H xs acc ∧ acc.length ≤ i * 4000 ∧ i ≤ r.items.length ∧
    Post K E μ H1 ((coll2M r g t mi1 g1 t1 e vs1 (wipeE env vs) (r.items.drop i) >>= fun ys => fin (acc ++ ys)) s') (okD K Q)
  have post0 : Post K E μ H1 ((coll2M r g t mi1 g1 t1 e vs1 (wipeE env vs) (r.items.drop 0) >>= fun ys => fin ([] ++ ys)) s1) (okD K Q) := post
  refine ⟨fun i m H => m = r.items.length - i ∧ Tn i H, ⟨r.items.length - 0, rfl, μ.hide Dl, s1, [], [], ⟨grow_hide hDn, [], rfl, List.not_mem_nil, fun _ h => nomatch h⟩, hs.hide hDn, upd_same, .nil, Nat.zero_le _, Nat.zero_le _, post0⟩, ?_⟩
  rintro i m H ⟨rfl, μ', s', acc, xs, U1, hs', hD, hacc, hli, hile, p⟩
  by_cases hi : i < r.items.length
  · right
    obtain ⟨d, hd⟩ : ∃ d, r.items[i]? = some d := ⟨_, List.getElem?_eq_getElem hi⟩
    have ed : r.items.drop i = d :: r.items.drop (i + 1) := by
      rw [List.drop_eq_getElem_cons hi]
      rw [List.getElem?_eq_getElem hi] at hd
      cases hd
      rfl
    rw [ed] at p
    -- what comes behind the inner walk
    let rest : M (List D) := coll2M r g t mi1 g1 t1 e vs1 (wipeE env vs) (r.items.drop (i + 1))
    have e1 : (coll2M r g t mi1 g1 t1 e vs1 (wipeE env vs) (d :: r.items.drop (i + 1)) >>= fun ys => fin (acc ++ ys)) = (guardM r >>= fun _ => g d (wipeE env vs) >>= fun env2 => t env2 >>= fun b => if b then mi1 env2 >>= fun r1 => sz4M r1.items.length >>= fun _ => collM r1 g1 t1 e (wipeE env2 vs1) r1.items >>= fun zs => rest >>= fun ys => fin (acc ++ (zs ++ ys)) else (rest >>= fun ys => fin (acc ++ ys))) := by
      show ((guardM r >>= fun _ => g d (wipeE env vs) >>= fun env2 => t env2 >>= fun b => if b then mi1 env2 >>= fun r1 => sz4M r1.items.length >>= fun _ => collM r1 g1 t1 e (wipeE env2 vs1) r1.items >>= fun zs => rest >>= fun ys => (Pure.pure (zs ++ ys) : M (List D)) else rest) >>= fun ys => fin (acc ++ ys)) = _
      rw [m_assoc]
      refine m_congr fun _ => ?_
      rw [m_assoc]
      refine m_congr fun env2 => ?_
      rw [m_assoc]
      refine m_congr fun b => ?_
      cases b with
      | true =>
        show ((mi1 env2 >>= fun r1 => sz4M r1.items.length >>= fun _ => collM r1 g1 t1 e (wipeE env2 vs1) r1.items >>= fun zs => rest >>= fun ys => (Pure.pure (zs ++ ys) : M (List D))) >>= _) = (mi1 env2 >>= fun r1 => sz4M r1.items.length >>= fun _ => collM r1 g1 t1 e (wipeE env2 vs1) r1.items >>= fun zs => rest >>= fun ys => fin (acc ++ (zs ++ ys)))
        rw [m_assoc]
        refine m_congr fun r1 => ?_
        rw [m_assoc]
        refine m_congr fun _ => ?_
        rw [m_assoc]
        refine m_congr fun zs => ?_
        rw [m_assoc]
        exact m_congr fun ys => rfl
      | false => rfl
    rw [e1] at p
    obtain ⟨ok, p2⟩ := guard_ok p
    clear p e1
    obtain ⟨go, yl⟩ := (hJ μ' H s' U1.1.w hs' ok).1 i d hd
    refine ⟨go, fun H' => Tn (i + 1) H', fun H' q => ⟨r.items.length - (i + 1), by omega, rfl, q⟩, fun x H' y => ?_⟩
    obtain ⟨g2, hs2, rx⟩ := yl x H' y
    obtain ⟨U2, hD2⟩ := up U1 g2 hs2 hD
    refine hg x σ H' _ ⟨μ', wipeE env vs, s', d, (hv.grow U2.1).wipe vs, hs2, rx, (Post.bindB p2 U2.1).mono fun env2 s2 μ3 H3 g3 hs3 p3 σ2 hv2 => ?_⟩
    obtain ⟨U3, hD3⟩ := up U2 g3 hs3 hD2
    refine ⟨μ3, env2, s2, hv2, hs3, (Post.bindB p3 U3.1).mono fun b s4 μ4 H4 g4 hs4 p4 => ?_⟩
    obtain ⟨U4, hD4⟩ := up U3 g4 hs4 hD3
    show if b = true then _ else _
    cases b with
    | false => exact ⟨μ4, s4, acc, xs, U4, hs4, hD4, RepL.grow (g2.trans (g3.trans g4)) _ _ hacc, by omega, hi, p4⟩
    | true =>
      refine ⟨μ4, env2, s4, hv2.grow g4, hs4, (Post.bindB p4 U4.1).mono fun r1 s5 μ5 H5 g5 hs5 p5 J1 hJ1 => ?_⟩
      obtain ⟨U5, hD5⟩ := up U4 g5 hs5 hD4
      have hacc5 := RepL.grow (g2.trans (g3.trans (g4.trans g5))) _ _ hacc
      have hv5 := (hv2.grow g4).grow g5
      obtain ⟨hl1, p6⟩ := sz4_ok p5
      clear p5
      let Tm : Nat → Hp → Prop := fun j H => ∃ μ' s' acc1 xs1, Up μ' H ∧ GrowW μ5 H5 μ' H ∧ SimS K μ' H s' ∧ H Dl = some (.lst xs1) ∧ RepL K μ' H xs1 acc1 ∧ acc1.length ≤ i * 4000 + j ∧ j ≤ r1.items.length ∧
        Post K E μ H1 ((collM r1 g1 t1 e (wipeE env2 vs1) (r1.items.drop j) >>= fun zs => rest >>= fun ys => fin (acc1 ++ (zs ++ ys))) s') (okD K Q)
      refine ⟨fun j k H => k = r1.items.length - j ∧ Tm j H, ⟨r1.items.length - 0, rfl, μ5, s5, acc, xs, U5, (Grow.refl μ5 H5).w, hs5, hD5, hacc5, by omega, Nat.zero_le _, p6⟩, ?_⟩
      rintro j k Hj ⟨rfl, ν, sj, acc1, xs1, V1, gw, hsj, hDj, haccj, hlj, hjle, pj⟩
      by_cases hj : j < r1.items.length
      · right
        obtain ⟨d1, hd1⟩ : ∃ d, r1.items[j]? = some d := ⟨_, List.getElem?_eq_getElem hj⟩
        have ed1 : r1.items.drop j = d1 :: r1.items.drop (j + 1) := by
          rw [List.drop_eq_getElem_cons hj]
          rw [List.getElem?_eq_getElem hj] at hd1
          cases hd1
          rfl
        rw [ed1] at pj
        let fin1 : List D → List D → M D := fun ac zs => rest >>= fun ys => fin (ac ++ (zs ++ ys))
        have e2 : (collM r1 g1 t1 e (wipeE env2 vs1) (d1 :: r1.items.drop (j + 1)) >>= fun zs => rest >>= fun ys => fin (acc1 ++ (zs ++ ys))) = (guardM r1 >>= fun _ => g1 d1 (wipeE env2 vs1) >>= fun env3 => t1 env3 >>= fun b => if b then e env3 >>= fun y => collM r1 g1 t1 e (wipeE env2 vs1) (r1.items.drop (j + 1)) >>= fun zs => rest >>= fun ys => fin (acc1 ++ ((y :: zs) ++ ys)) else (collM r1 g1 t1 e (wipeE env2 vs1) (r1.items.drop (j + 1)) >>= fun zs => rest >>= fun ys => fin (acc1 ++ (zs ++ ys)))) := by
          show ((guardM r1 >>= fun _ => g1 d1 (wipeE env2 vs1) >>= fun env3 => t1 env3 >>= fun b => if b then e env3 >>= fun y => collM r1 g1 t1 e (wipeE env2 vs1) (r1.items.drop (j + 1)) >>= fun ys => (Pure.pure (y :: ys) : M (List D)) else collM r1 g1 t1 e (wipeE env2 vs1) (r1.items.drop (j + 1))) >>= fun zs => rest >>= fun ys => fin (acc1 ++ (zs ++ ys))) = _
          rw [m_assoc]
          refine m_congr fun _ => ?_
          rw [m_assoc]
          refine m_congr fun env3 => ?_
          rw [m_assoc]
          refine m_congr fun b => ?_
          cases b with
          | true =>
            show ((e env3 >>= fun y => collM r1 g1 t1 e (wipeE env2 vs1) (r1.items.drop (j + 1)) >>= fun ys => (Pure.pure (y :: ys) : M (List D))) >>= _) = (e env3 >>= fun y => collM r1 g1 t1 e (wipeE env2 vs1) (r1.items.drop (j + 1)) >>= fun zs => rest >>= fun ys => fin (acc1 ++ ((y :: zs) ++ ys)))
            rw [m_assoc]
            refine m_congr fun y => ?_
            rw [m_assoc]
            exact m_congr fun ys => rfl
          | false => rfl
        rw [e2] at pj
        obtain ⟨ok1, q2⟩ := guard_ok pj
        clear pj e2
        obtain ⟨go1, yl1⟩ := (hJ1 ν Hj sj gw hsj ok1).1 j d1 hd1
        refine ⟨go1, fun H' => Tm (j + 1) H', fun H' q => ⟨r1.items.length - (j + 1), by omega, rfl, q⟩, fun x1 H6 y1 => ?_⟩
        obtain ⟨g6, hs6, rx1⟩ := yl1 x1 H6 y1
        obtain ⟨V2, hD6⟩ := up V1 g6 hs6 hDj
        have hv6 : SimV K ν H6 σ2 env2 := ⟨hv5.len, fun i d e => by
          obtain ⟨v, h1, h2⟩ := hv5.val i d e
          exact ⟨v, h1, Rep.growW (gw.trans g6.w) d v h2⟩⟩
        refine hg1 x1 σ2 H6 _ ⟨ν, wipeE env2 vs1, sj, d1, hv6.wipe vs1, hs6, rx1, (Post.bindB q2 V2.1).mono fun env3 s7 μ7 H7 g7 hs7 q3 σ3 hv7 => ?_⟩
        obtain ⟨V3, hD7⟩ := up V2 g7 hs7 hD6
        refine ⟨μ7, env3, s7, hv7, hs7, (Post.bindB q3 V3.1).mono fun b s8 μ8 H8 g8 hs8 q4 => ?_⟩
        obtain ⟨V4, hD8⟩ := up V3 g8 hs8 hD7
        have gw8 := gw.trans (g6.trans (g7.trans g8)).w
        show if b = true then _ else _
        cases b with
        | false => exact ⟨μ8, s8, acc1, xs1, V4, gw8, hs8, hD8, RepL.grow (g6.trans (g7.trans g8)) _ _ haccj, by omega, hj, q4⟩
        | true =>
          refine ⟨μ8, env3, s8, hv7.grow g8, hs8, (Post.bindB q4 V4.1).mono fun y s9 μ9 H9 g9 hs9 q5 v hy => ?_⟩
          obtain ⟨V5, hD9⟩ := up V4 g9 hs9 hD8
          have hacc9 := RepL.grow (g6.trans (g7.trans (g8.trans g9))) _ _ haccj
          have hb : i * 4000 + j < 16777216 := by
            have : i * 4000 ≤ 4000 * 4000 := Nat.mul_le_mul (by omega) (Nat.le_refl _)
            omega
          refine ⟨xs1, hD9, Nat.lt_of_le_of_lt (by rw [hacc9.length]; exact hlj) (Nat.lt_of_lt_of_le hb (by decide)), μ9, s9, acc1 ++ [y], xs1 ++ [v], bump V5 hD9, (gw8.trans g9.w).trans (growW_hid (inh V5) hD9), hs9.aside (inh V5) hD9, upd_same, ?_, by rw [List.length_append, List.length_singleton]; omega, hj, ?_⟩
          · exact RepL.heap (hq_hid (inh V5) hD9) _ _ (hacc9.append (.cons hy .nil))
          · refine cast ?_ q5
            congr 1
            refine congrArg (fun z : M D => z s9) (m_congr fun zs => m_congr fun ys => ?_)
            rw [List.append_assoc]
            rfl
      · left
        have ej : j = r1.items.length := by omega
        subst ej
        rw [List.drop_length] at pj
        have e2 : (collM r1 g1 t1 e (wipeE env2 vs1) [] >>= fun zs => rest >>= fun ys => fin (acc1 ++ (zs ++ ys))) = (guardM r1 >>= fun _ => rest >>= fun ys => fin (acc1 ++ ys)) := by
          show ((guardM r1 >>= fun _ => (Pure.pure [] : M (List D))) >>= fun zs => rest >>= fun ys => fin (acc1 ++ (zs ++ ys))) = _
          rw [m_assoc]
          exact m_congr fun _ => rfl
        rw [e2] at pj
        obtain ⟨ok1, q2⟩ := guard_ok pj
        exact ⟨(hJ1 ν Hj sj gw hsj ok1).2, ν, sj, acc1, xs1, V1, hsj, hDj, haccj, by omega, hi, q2⟩
  · left
    have ei : i = r.items.length := by omega
    subst ei
    rw [List.drop_length] at p
    have e1 : (coll2M r g t mi1 g1 t1 e vs1 (wipeE env vs) [] >>= fun ys => fin (acc ++ ys)) = (guardM r >>= fun _ => fin acc) := by
      show ((guardM r >>= fun _ => (Pure.pure [] : M (List D))) >>= fun ys => fin (acc ++ ys)) = _
      rw [m_assoc]
      refine m_congr fun _ => ?_
      show fin (acc ++ []) = _
      rw [List.append_nil]
    rw [e1] at p
    obtain ⟨ok, p2⟩ := guard_ok p
    refine ⟨(hJ μ' H s' U1.1.w hs' ok).2, ?_⟩
    obtain ⟨g1, u, hu, nu, ku⟩ := U1
    obtain ⟨c, h⟩ := μ'
    simp only [] at hu
    subst hu
    refine hfin c u H s' acc xs ⟨g1.pre, ⟨u, rfl, ku⟩, g1.tup, g1.frz, g1.frm, g1.new, g1.trk⟩ (fun z => ?_) hs' hD hacc p2
    rcases List.mem_append.mp z with z | z
    · exact nu z
    · exact nD.2 z
end
section
variable {X : Cx} {E : XK} {elt tg iter tg1 iter1 : Expr} {ifs ifs1 : List Expr} {scope : Scope} {pos : Pos} {mi mi1 : Env → M Src} {t t1 : Env → M Bool} {e : Env → M D} {g g1 : D → Env → M Env} {gt gt1 : TG} {own : List (Str × Nat)} {vs1 : List Nat}
theorem te_comp2F {K : PySem.W.Frag} {vs : List Nat} (hg : GtOk K E g gt vs) (hg1 : GtOk K E g1 gt1 vs1) : ∀ σ H Q, TEof K E (comp2F mi g t mi1 g1 t1 e vs vs1) σ H Q → tLc2 (TIof K E mi) gt (TTof K E t) (TIof K E mi1) gt1 (TTof K E t1) (TEof K E e) vs vs1 σ H Q := by
  rintro σ H Q ⟨μ, env, s, hv, hs, post⟩
  refine ⟨μ, env, s, hv, hs, (Post.bind post).mono fun r s1 μ1 H1 g2 hs1 p1 J hJ Dl hD => ?_⟩
  obtain ⟨hl, p2⟩ := sz4_ok p1
  exact lc2_ok (hv.grow g2) hs1 hJ hl hD hg hg1 fin_vls p2
theorem se_comp2F (hc : X.calm = true) (hN : X.N.Nodup) (hi : SI X E tg iter mi) (ok : BlkOk X.N X.env.scope scope own) (hvs : ∀ i ∈ vs1, i ∈ own.map (·.2)) (hgt : GtOk X.K E g gt (own.map (·.2))) (hgt1 : GtOk X.K E g1 gt1 vs1)
    (hg : ∀ (s : Shared) (H : Hp) (C : Addr) (cl : List (Str × Addr)) (fp : List Addr), PG (X.blk s H scope (compEnvC scope cl C X.env) fp) tg gt) (ht : ∀ (s : Shared) (H : Hp) (C : Addr) (cl : List (Str × Addr)) (fp : List Addr), STs (X.blk s H scope (compEnvC scope cl C X.env) fp) E ifs t)
    (hi1 : ∀ (s : Shared) (H : Hp) (C : Addr) (cl : List (Str × Addr)) (fp : List Addr), SI (X.blk s H scope (compEnvC scope cl C X.env) fp) E tg1 iter1 mi1)
    (hg1 : ∀ (s : Shared) (H : Hp) (C : Addr) (cl : List (Str × Addr)) (fp : List Addr), PG (X.blk s H scope (compEnvC scope cl C X.env) fp) tg1 gt1) (ht1 : ∀ (s : Shared) (H : Hp) (C : Addr) (cl : List (Str × Addr)) (fp : List Addr), STs (X.blk s H scope (compEnvC scope cl C X.env) fp) E ifs1 t1)
    (he : ∀ (s : Shared) (H : Hp) (C : Addr) (cl : List (Str × Addr)) (fp : List Addr), SE (X.blk s H scope (compEnvC scope cl C X.env) fp) E elt e) (hs : ∀ x, foldedSetIterable iter X.env x = pure x := by intro _; rfl) (hs1 : ∀ env x, foldedSetIterable iter1 env x = pure x := by intro _ _; rfl) :
    SE X E (.ListComp elt [⟨tg, iter, ifs, 0⟩, ⟨tg1, iter1, ifs1, 0⟩] scope pos) (comp2F mi g t mi1 g1 t1 e (own.map (·.2)) vs1) := PE.imp (pe_lc2 (wi1 := TIof X.K E mi1) (g1 := gt1) (tt := TTof X.K E t) (tt1 := TTof X.K E t1) (te := TEof X.K E e) hc hN hi ok hvs hg ht hi1 hg1 ht1 he hs hs1) (te_comp2F hgt hgt1)
end
end PL

/-! PL25: math.lcm of four integers. -/
namespace PL
open PySem PySem.Spec PyProof.Rows L2
theorem lcm_args (a b c d : Value) : argsOk "math.lcm" { pos := [a, b, c, d] } := Eq.refl _
theorem room_ok {l : Nat} (h : l < 2 ^ 8000) : ¬ (l.log2 / 30 + 1 > 450) := fun g => by
  by_cases h0 : l = 0
  · subst h0
    revert g
    decide
  · have : l.log2 < 8000 := (Nat.log2_lt h0).mpr h
    omega
def lcm4 (a b c d : Int) : Nat := (((Nat.lcm 1 a.natAbs).lcm b.natAbs).lcm c.natAbs).lcm d.natAbs
theorem lcm4_gives {a b c d : Int} {t u v w : Tok} (ha : a.natAbs < 2 ^ 1000) (hb : b.natAbs < 2 ^ 1000) (hc : c.natAbs < 2 ^ 1000) (hd : d.natAbs < 2 ^ 1000) : Gives (Builtin.«math.lcm» { pos := [.int a t, .int b u, .int c v, .int d w] }) (Made.int (lcm4 a b c d : Nat)) := Gives.of_wp fun M A E s Q h => by
  have k1 : Nat.lcm 1 a.natAbs < 2 ^ 1000 := by rw [PySem.W.mc_lcm_one]; exact ha
  have mul : ∀ {x y m n : Nat}, x < 2 ^ m → y < 2 ^ n → x.lcm y < 2 ^ (m + n) := fun {x y m n} hx hy => by
    refine Nat.lt_of_le_of_lt (PySem.W.mc_lcm_le x y) ?_
    rw [Nat.pow_add]
    by_cases h0 : x = 0
    · rw [h0, Nat.zero_mul]
      exact Nat.mul_pos (Nat.pow_pos (by decide)) (Nat.pow_pos (by decide))
    · exact Nat.mul_lt_mul'' hx hy
  have k2 : (Nat.lcm 1 a.natAbs).lcm b.natAbs < 2 ^ (1000 + 1000) := mul k1 hb
  have k3 := mul k2 hc
  have k4 := mul k3 hd
  have up : ∀ {x m : Nat}, x < 2 ^ m → m ≤ 8000 → x < 2 ^ 8000 := fun {x m} hx hm => Nat.lt_of_lt_of_le hx (Nat.pow_le_pow_right (by decide) hm)
  have mx : ∀ {x y : Nat}, x < 2 ^ 8000 → y < 2 ^ 8000 → max x y < 2 ^ 8000 := fun {x y} hx hy => Nat.max_lt.mpr ⟨hx, hy⟩
  have st : ∀ (l : Nat) (i : Int) (z : Tok) {R : ForInStep Nat → Shared → Prop} {s : Shared}, l < 2 ^ 8000 → i.natAbs < 2 ^ 8000 → R (.yield (l.lcm i.natAbs)) s → wpAny M A (do
      let x ← Builtin.Math.mathIndex (.int i z)
      let x : Nat := x.natAbs
      Builtin.roomForPylongsInverse (max l x)
      Pure.pure (ForInStep.yield (l.lcm x))) R E s := fun l i z R s hl hi hr => by
    refine wpAny_bind (wpAny_pure ?_)
    refine wpAny_bind ?_
    unfold Builtin.roomForPylongsInverse
    rw [if_neg (room_ok (mx hl hi))]
    exact wpAny_pure (wpAny_pure hr)
  unfold Builtin.«math.lcm»
  refine wpAny_bind (wpAny_pure ?_)
  refine wpAny_bind ?_
  rw [List.forIn_cons]
  refine wpAny_bind (st 1 a t (by decide) (up ha (by decide)) ?_)
  show wpAny _ _ (forIn [Value.int b u, .int c v, .int d w] (Nat.lcm 1 a.natAbs) _) _ _ _
  rw [List.forIn_cons]
  refine wpAny_bind (st _ b u (up k1 (by decide)) (up hb (by decide)) ?_)
  show wpAny _ _ (forIn [Value.int c v, .int d w] ((Nat.lcm 1 a.natAbs).lcm b.natAbs) _) _ _ _
  rw [List.forIn_cons]
  refine wpAny_bind (st _ c v (up k2 (by decide)) (up hc (by decide)) ?_)
  show wpAny _ _ (forIn [Value.int d w] (((Nat.lcm 1 a.natAbs).lcm b.natAbs).lcm c.natAbs) _) _ _ _
  rw [List.forIn_cons]
  refine wpAny_bind (st _ d w (up k3 (by decide)) (up hd (by decide)) ?_)
  show wpAny _ _ (forIn ([] : List Value) (lcm4 a b c d) _) _ _ _
  rw [List.forIn_nil]
  refine wpAny_pure ?_
  show wpAny _ _ (retIntGrown (lcm4 a b c d : Nat)) _ _ _
  unfold retIntGrown mkIntGrown
  have hbits : ¬ ((lcm4 a b c d : Nat) : Int).natAbs.log2 ≥ bitsLine := fun g => by
    have e : ((lcm4 a b c d : Nat) : Int).natAbs = lcm4 a b c d := Int.natAbs_natCast _
    rw [e] at g
    by_cases h0 : lcm4 a b c d = 0
    · rw [h0] at g
      revert g
      decide
    · have h1 : (lcm4 a b c d).log2 < 1000 + 1000 + 1000 + 1000 := (Nat.log2_lt h0).mpr k4
      have h2 : bitsLine = 134217728 := by decide
      omega
  rw [if_neg hbits]
  exact wpAny_bind (wpAny_mkInt (wpAny_pure ⟨_, rfl, h⟩))
theorem wp_lcm4 {prog : Program} {wd : World} {A : Around} {E : Value → Shared → Prop} {s : Shared} {Q : Value → Shared → Prop} {a b c d : Int} {t u v w : Tok} (ha : a.natAbs < 2 ^ 1000) (hb : b.natAbs < 2 ^ 1000) (hc : c.natAbs < 2 ^ 1000) (hd : d.natAbs < 2 ^ 1000)
    (h : Q (.int (lcm4 a b c d : Nat) s.toks) { s with toks := s.toks + 1 }) : wpAny (model prog wd) A (call (.builtin "math.lcm") [.int a t, .int b u, .int c v, .int d w]) Q E s :=
  call_function_meets PySem.W.MGF.kind_lcm PySem.W.MGF.plain_lcm PySem.W.MGF.entry_lcm (lcm_args _ _ _ _) (Gives.meets (lcm4_gives ha hb hc hd)) h
/-! ### as a rule -/
def rLcm4 (vs : List V) (H : Hp) (Q : VK) : Prop := ∃ a b c d : Int, vs = [.int a, .int b, .int c, .int d] ∧ a.natAbs < 2 ^ 1000 ∧ b.natAbs < 2 ^ 1000 ∧ c.natAbs < 2 ^ 1000 ∧ d.natAbs < 2 ^ 1000 ∧ Q (.int (lcm4 a b c d : Nat)) H
theorem vals_int {i : Int} {xs : List V} {us : List Value} (h : Vals (.int i :: xs) us) : ∃ t r, us = .int i t :: r ∧ Vals xs r := by
  cases h with
  | cons a b =>
    obtain ⟨t, rfl⟩ := a
    exact ⟨t, _, rfl, b⟩
theorem cr_lcm4 {X : Cx} : CallR X (.builtin "math.lcm") rLcm4 := by
  intro pins s σ H vs us Q I r h
  obtain ⟨a, b, c, d, rfl, ha, hb, hc, hd, q⟩ := h
  obtain ⟨t, u1, rfl, r1⟩ := vals_int r
  obtain ⟨u, u2, rfl, r2⟩ := vals_int r1
  obtain ⟨v, u3, rfl, r3⟩ := vals_int r2
  obtain ⟨w, u4, rfl, r4⟩ := vals_int r3
  cases r4
  exact wp_lcm4 ha hb hc hd ⟨.int (lcm4 a b c d : Nat), H, I.tok (s.toks + 1), ⟨s.toks, rfl⟩, q⟩
def lcm4D (ds : List D) : M D := fun s => match ds with
  | [.int a, .int b, .int c, .int d] => if a.natAbs < 2 ^ 1000 ∧ b.natAbs < 2 ^ 1000 ∧ c.natAbs < 2 ^ 1000 ∧ d.natAbs < 2 ^ 1000 then .ok (.int (lcm4 a b c d : Nat)) s else .stuck
  | _ => .stuck
theorem repL_int {K : PySem.W.Frag} {μ : Mu} {H : Hp} {i : Int} {vs : List V} {ds : List D} (h : RepL K μ H vs (.int i :: ds)) : ∃ r, vs = .int i :: r ∧ RepL K μ H r ds := by
  cases h with
  | cons a b =>
    cases a
    exact ⟨_, rfl, b⟩
theorem cr_lcmD {X : Cx} {E : XK} : CallR X (.builtin "math.lcm") (RLof X.K E lcm4D) := CallR.imp cr_lcm4 (by
  rintro vs H Q ⟨μ, s, ds, hs, hl, post⟩
  unfold lcm4D at post
  split at post
  · rename_i a b c d
    split at post
    · rename_i hk
      obtain ⟨v1, rfl, r1⟩ := repL_int hl
      obtain ⟨v2, rfl, r2⟩ := repL_int r1
      obtain ⟨v3, rfl, r3⟩ := repL_int r2
      obtain ⟨v4, rfl, r4⟩ := repL_int r3
      cases r4
      exact ⟨a, b, c, d, rfl, hk.1, hk.2.1, hk.2.2.1, hk.2.2.2, post_int hs post⟩
    · exact (show False from post).elim
  · exact (show False from post).elim)
end PL

/-! PL26: xs.extend(..) by a list that is a value -/
namespace PL
open PySem PySem.Spec PyProof.Rows L2
def extendD (x : D) (as : List D) : M D := lstOf x fun n ds => match as with
  | [.vls es] => if ds.length + es.length ≤ 100000 then putC n (.lst (ds ++ es)) .non else stuck
  | _ => stuck
section
variable {X : Cx} {E : XK} {o e : Expr} {es : List Expr} {mo : Env → M D} {ma : Env → M (List D)} {apos cpos : Pos} {name : Str} {id : String}
theorem se_extend (ho : SE X E o mo) (ha : SA X E [e] ma) (hbase : attributeBase o "extend" X.env (eval o X.env) = eval o X.env := by rfl)
    (hline : (apos.endLine == cpos.line) = true := by rfl) (hs : starEach [e] X.env = (false, eval e X.env) :: starEach [] X.env := by rfl) : SE X E (.Call (.Attribute o "extend" apos) [e] [] cpos) (methM extendD mo ma) := PE.imp (pe_bm PySem.F.plainAttrs_list PySem.F.slot_list_extend PySem.F.type_list_extend mt_extend ho ha hbase (by rw [hs]; rfl) hline hs rfl) (te_meth (by
  rintro x xs H Q ⟨μ, s, dx, ds, hs, hx, hl, post⟩
  obtain ⟨a, n, es, ys, rfl, hn, ec, h1, h2, p⟩ := lstOf_rep hs hx post
  cases hl with
  | nil => exact (show False from p).elim
  | cons r t =>
    cases t with
    | nil =>
      cases r with
      | @vls b zs zd hv hz =>
        simp only [] at p
        split at p
        · rename_i hzz
          have lz := hz.length
          have ly := h2.length
          exact ⟨a, b, ys, zs, rfl, rfl, h1, hv.at_, Nat.le_of_lt (Nat.lt_of_le_of_lt (by rw [ly, lz]; exact hzz) (by decide)), put_lst hs hn h1 (h2.append hz) .non p⟩
        · exact (show False from p).elim
      | _ => exact (show False from p).elim
    | cons r' t' =>
      cases r with
      | _ => exact (show False from p).elim))
end
def extK (k : Nat) (es : List D) (s : S) : Option Cell → R D
  | some (.lst ds) => if ds.length + es.length ≤ 100000 then .ok .non (s.set k (.lst (ds ++ es))) else .stuck
  | _ => .stuck
theorem extD_run {s : S} {k : Nat} {es : List D} : extendD (.ptr k) [.vls es] s = extK k es s s[k]? := by
  unfold extendD lstOf extK
  cases e : s[k]? with
  | none => simp only [e]
  | some c =>
    cases c with
    | lst ds =>
      simp only [e]
      by_cases h : ds.length + es.length ≤ 100000
      · rw [if_pos h, if_pos h]
        rfl
      · rw [if_neg h, if_neg h]
        rfl
    | dK kvs => simp only [e]
    | dT kvs => simp only [e]
    | dN kvs => simp only [e]
    | fN kvs => simp only [e]
    | ins C fs => simp only [e]
    | fK kvs => simp only [e]
theorem methE_run {s : S} {mo : PL.Env → M D} {ma : PL.Env → M (List D)} {env : PL.Env} : methM extendD mo ma env s = (mo env s).on fun x s1 => (isL x s1).on fun _ s2 => (ma env s2).on fun ds s3 => extendD x ds s3 := by
  show (mo env >>= fun x => isL x >>= fun _ => ma env >>= fun ds => extendD x ds) s = _
  simp only [bind_on]
theorem extK_le {s : S} {k : Nat} {es ds : List D} (h : ds.length + es.length ≤ 100000) : extK k es s (some (.lst ds)) = .ok .non (s.set k (.lst (ds ++ es))) := if_pos h
end PL

/-! PL27: walks over a dict, which is locked meanwhile; a name set to a comprehension of two parts -/
namespace PL
open PySem PySem.Spec PyProof.Rows L2
/-- the keys of a locked dict -/
def srcK (d : D) : M Src := match d with
  | .ptr n => fun s => match s[n]? with
    | some (.fK kvs) => .ok ⟨kvs.map fun kv => keyD kv.1, none⟩ s
    | _ => .stuck
  | _ => stuck
def srcKM (m : Env → M D) (env : Env) : M Src := m env >>= srcK
theorem cell_fK {K : PySem.W.Frag} {μ : Mu} {H : Hp} {s : S} {n : Nat} {a : Addr} {ds : List (Key × D)} (hs : SimS K μ H s) (ha : μ.c[n]? = some a) (e : s[n]? = some (.fK ds)) : ∃ o xs, H a = some (.frz o (.dK xs)) ∧ RepK K μ H xs ds := by
  obtain ⟨b, hb, hc⟩ := hs.cell n _ e
  rw [ha] at hb
  cases hb
  exact hc
theorem key_rep {K : PySem.W.Frag} {μ : Mu} {H : Hp} (k : L2.Key) : Rep K μ H (kV k) (keyD k) := by
  cases k with
  | inl i => exact .int i
  | inr x => exact .str x
theorem good_keys {K : PySem.W.Frag} {μ : Mu} {H : Hp} {a : Addr} {o : Obj} {xs : List (Key × V)} {kvs : List (Key × D)} (h : H a = some (.frz o (.dK xs))) (r : RepK K μ H xs kvs) : GoodIt K μ H (Itk a o xs) ⟨kvs.map fun kv => keyD kv.1, none⟩ := fun μ' H' s g hs _ => by
  have h' := g.frz _ _ _ h
  have hl : xs.length = kvs.length := by
    have := congrArg List.length r.1
    rw [List.length_map, List.length_map] at this
    exact this
  refine ⟨fun i d e => ?_, h', by rw [List.length_map, hl]; exact Nat.le_refl _⟩
  rw [List.getElem?_map] at e
  cases ek : kvs[i]? with
  | none => rw [ek] at e; cases e
  | some kv =>
    rw [ek] at e
    cases e
    have hi : i < xs.length := by rw [hl]; exact (List.getElem?_eq_some_iff.mp ek).1
    refine ⟨⟨h', hi⟩, fun x H2 y => ?_⟩
    obtain ⟨rfl, k, v, e1, rfl⟩ := y
    have q := congrArg (fun l => l[i]?) r.1
    simp only [List.getElem?_map, e1, ek, Option.map_some] at q
    have q2 : k = kv.1 := Option.some.inj q
    subst q2
    exact ⟨Grow.refl _ _, hs, key_rep kv.1⟩
section
variable {X : Cx} {E : XK} {e tg : Expr} {ma : Env → M D}
theorem si_keys (ha : SE X E e ma) : SI X E tg e (srcKM ma) := PI.imp (pi_keys ha) (by
  rintro σ H R ⟨μ, env, s, hv, hs, post⟩
  refine ⟨μ, env, s, hv, hs, (Post.bind (show Post X.K E μ H ((ma env >>= srcK) s) _ from post)).mono fun x s1 μ1 H1 g1 hs1 p1 v hx => ?_⟩
  unfold srcK at p1
  cases hx with
  | @ptr a n hn =>
    cases ec : s1[n]? with
    | none => simp only [ec] at p1; exact (show False from p1).elim
    | some cl =>
      simp only [ec] at p1
      cases cl with
      | fK kvs =>
        obtain ⟨o, xs, h1, h2⟩ := cell_fK hs1 hn ec
        refine ⟨a, o, rfl, .inl ⟨xs, h1, ?_⟩⟩
        exact Post.now (E := E) p1 hs1 _ (good_keys h1 h2)
      | lst ds => exact (show False from p1).elim
      | dK kvs => exact (show False from p1).elim
      | dT kvs => exact (show False from p1).elim
      | dN kvs => exact (show False from p1).elim
      | fN kvs => exact (show False from p1).elim
      | ins C fs => exact (show False from p1).elim
  | _ => exact (show False from p1).elim)
end
/-! ### the lock -/
def unlD (n : Nat) (kvs : List (Key × D)) : R Out → R Out
  | .ok o s => .ok o (s.set n (.dK kvs))
  | _ => .stuck
/-- the statement runs while the dict that me gives is locked -/
def lockS (me : Env → M D) (m : Env → M Out) (env : Env) : M Out := fun s => match me env s with
  | .ok (.ptr n) _ => (match s[n]? with
    | some (.dK kvs) => unlD n kvs (m env (s.set n (.fK kvs)))
    | _ => .stuck)
  | _ => .stuck
theorem hq_unl {μ : Mu} {H : Hp} {d : Addr} {od : Obj} {xs : List (Key × V)} (hm : d ∈ μ.c) (e : H d = some (.frz od (.dK xs))) : Hq μ H (upd H d (.dK xs)) :=
  ⟨fun b zs q => by
    rw [upd_ne fun z => by rw [z, e] at q; cases q]
    exact q, fun b o u hu q => by
    rw [upd_ne fun z => by
      rw [z, e] at q
      cases q
      exact hu xs rfl]
    exact q, fun b zs q n1 n2 => by
    rw [upd_ne fun z => by rw [z, e] at q; cases q]
    exact q⟩
theorem grow_unl {μ μ' : Mu} {H H' : Hp} {d : Addr} {od : Obj} {xs : List (Key × V)} (hm : d ∈ μ.c) (hd : H d = some (.dK xs)) (g : Grow μ (upd H d (.frz od (.dK xs))) μ' H') : Grow μ H μ' (upd H' d (.dK xs)) := by
  have hm' : d ∈ μ'.c := by
    obtain ⟨t, ht⟩ := g.pre
    rw [ht]
    exact List.mem_append_left _ hm
  refine ⟨g.pre, ?_, fun a zs q => ?_, fun a o u q => ?_, fun a o q n => ?_, fun a h => ?_, fun a h => ?_⟩
  · obtain ⟨u, hu, ku⟩ := g.hid
    refine ⟨u, hu, fun p hp => ?_⟩
    have := ku p hp
    by_cases z : p = d
    · rw [z, upd_same] at this
      cases this
    · rw [upd_ne z] at this
      exact this
  · have ne : a ≠ d := fun z => by rw [z, hd] at q; cases q
    rw [upd_ne ne]
    exact g.tup a zs (by rw [upd_ne ne]; exact q)
  · have ne : a ≠ d := fun z => by rw [z, hd] at q; cases q
    rw [upd_ne ne]
    exact g.frz a o u (by rw [upd_ne ne]; exact q)
  · have ne : a ≠ d := fun z => n (by rw [z]; exact hm')
    rw [upd_ne ne]
    exact g.frm a o (by rw [upd_ne ne]; exact q) n
  · rcases g.new a h with k | k
    · exact .inl k
    · by_cases z : a = d
      · rw [z]
        exact .inl hm
      · rw [upd_ne z] at k
        exact .inr k
  · have ne : a ≠ d := fun z => by rw [z, upd_same] at h; cases h
    rw [upd_ne ne] at h
    have := g.trk a h
    rw [upd_ne ne] at this
    exact this
theorem sim_unl {K : PySem.W.Frag} {μ : Mu} {H : Hp} {s : S} {n : Nat} {d : Addr} {od : Obj} {xs : List (Key × V)} {kvs : List (Key × D)} (hs : SimS K μ H s) (hn : μ.c[n]? = some d) (hd : H d = some (.frz od (.dK xs))) (r : RepK K μ H xs kvs) : SimS K μ (upd H d (.dK xs)) (s.set n (.dK kvs)) := by
  have k := hq_unl (List.mem_of_getElem? hn) hd
  refine ⟨by rw [List.length_set]; exact hs.len, hs.nd, fun p hp => ?_, hs.dis, fun j c e => ?_⟩
  · by_cases z : p = d
    · rw [z, upd_same]
      exact fun h => nomatch h
    · rw [upd_ne z]
      exact hs.hok p hp
  · by_cases hj : n = j
    · subst hj
      have hl : n < s.length := by rw [← hs.len]; exact (List.getElem?_eq_some_iff.mp hn).1
      rw [List.getElem?_set_self hl] at e
      cases e
      exact ⟨d, hn, xs, upd_same, r.1, RepL.heap k _ _ r.2⟩
    · rw [List.getElem?_set_ne hj] at e
      obtain ⟨a, h1, h2⟩ := hs.cell j c e
      refine ⟨a, h1, h2.heap k (upd_ne fun z => hj ?_)⟩
      subst z
      exact (List.getElem?_inj (List.getElem?_eq_some_iff.mp hn).1 hs.nd).mp (hn.trans h1.symm)
theorem ss_lock {X : Cx} {E : XK} {st : Stmt} {m : Env → M Out} {me : Env → M D} (h : SS X E st m) : SS X E st (lockS me m) := PS.imp (ps_lock h) (by
  rintro Dd σ H ⟨μ, env, s, hv, hs, post⟩
  unfold lockS at post
  cases e1 : me env s with
  | stuck => rw [e1] at post; exact (show False from post).elim
  | exc c s1 => rw [e1] at post; exact (show False from post).elim
  | ok x s1 =>
    rw [e1] at post
    cases x with
    | ptr n =>
      simp only [] at post
      cases ec : s[n]? with
      | none => simp only [ec] at post; exact (show False from post).elim
      | some cl =>
        simp only [ec] at post
        cases cl with
        | dK kvs =>
          simp only [] at post
          have hl : n < s.length := (List.getElem?_eq_some_iff.mp ec).1
          obtain ⟨d, hn, xs, hd, r⟩ : ∃ d, μ.c[n]? = some d ∧ ∃ xs, H d = some (.dK xs) ∧ RepK X.K μ H xs kvs := by
            obtain ⟨a, h1, h2⟩ := hs.cell n _ ec
            exact ⟨a, h1, h2⟩
          have hm : d ∈ μ.c := List.mem_of_getElem? hn
          have mu : Mut (H d) := by rw [hd]; trivial
          refine ⟨d, .dK xs, hd, trivial, fun od => ?_⟩
          have g := grow_put (μ := μ) (H := H) (a := d) (o := .frz od (.dK xs)) mu hm
          have hs1 : SimS X.K μ (upd H d (.frz od (.dK xs))) (s.set n (.fK kvs)) := hs.put hn mu ⟨od, xs, upd_same, r.grow g⟩
          refine ⟨μ, env, s.set n (.fK kvs), hv.grow g, hs1, ?_⟩
          cases em : m env (s.set n (.fK kvs)) with
          | stuck => rw [em] at post; exact (show False from post).elim
          | exc c s2 => rw [em] at post; exact (show False from post).elim
          | ok o s2 =>
            rw [em] at post
            intro μ' H' g' hs'
            have hd' : H' d = some (.frz od (.dK xs)) := g'.frz _ _ _ upd_same
            have hn' := g'.at hn
            have r' : RepK X.K μ' H' xs kvs := (r.grow g).grow g'
            have hs2 := sim_unl hs' hn' hd' r'
            have p := (show Post X.K E μ H (R.ok o (s2.set n (.dK kvs))) (okO X.K Dd) from post) μ' _ (grow_unl hm hd g') hs2
            have k := hq_unl (List.mem_of_getElem? hn') hd'
            have vv : ∀ {σ : L2.St} {en : Env}, SimV X.K μ' H' σ en → SimV X.K μ' (upd H' d (.dK xs)) σ en := fun hv => ⟨hv.len, fun i d e => let ⟨v, h1, h2⟩ := hv.val i d e; ⟨v, h1, Rep.heap k d v h2⟩⟩
            cases o with
            | nx en => exact fun σ2 hv2 => ⟨hd', p σ2 (vv hv2)⟩
            | rt x => exact fun v hx => ⟨hd', p v (Rep.heap k x v hx)⟩
            | bk en => exact fun σ2 hv2 => ⟨hd', p σ2 (vv hv2)⟩
            | ct en => exact fun σ2 hv2 => ⟨hd', p σ2 (vv hv2)⟩
        | lst ds => exact (show False from post).elim
        | dT kvs => exact (show False from post).elim
        | dN kvs => exact (show False from post).elim
        | fN kvs => exact (show False from post).elim
        | ins C fs => exact (show False from post).elim
        | fK kvs => exact (show False from post).elim
    | _ => exact (show False from post).elim)
section
variable {X : Cx} {E : XK} {elt tg iter tg1 iter1 : Expr} {ifs ifs1 : List Expr} {scope : Scope} {pos spos py : Pos} {mi mi1 : Env → M Src} {t t1 : Env → M Bool} {e : Env → M D} {g g1 : D → Env → M Env} {gt gt1 : TG} {own : List (Str × Nat)} {vs1 : List Nat} {y : Str}
theorem ss_setComp2F (i : Nat) (hc : X.calm = true) (hN : X.N.Nodup) (hi : SI X E tg iter mi) (ok : BlkOk X.N X.env.scope scope own) (hvs : ∀ i ∈ vs1, i ∈ own.map (·.2)) (hgt : GtOk X.K E g gt (own.map (·.2))) (hgt1 : GtOk X.K E g1 gt1 vs1)
    (hg : ∀ (s : Shared) (H : Hp) (C : Addr) (cl : List (Str × Addr)) (fp : List Addr), PG (X.blk s H scope (compEnvC scope cl C X.env) fp) tg gt) (ht : ∀ (s : Shared) (H : Hp) (C : Addr) (cl : List (Str × Addr)) (fp : List Addr), STs (X.blk s H scope (compEnvC scope cl C X.env) fp) E ifs t)
    (hi1 : ∀ (s : Shared) (H : Hp) (C : Addr) (cl : List (Str × Addr)) (fp : List Addr), SI (X.blk s H scope (compEnvC scope cl C X.env) fp) E tg1 iter1 mi1)
    (hg1 : ∀ (s : Shared) (H : Hp) (C : Addr) (cl : List (Str × Addr)) (fp : List Addr), PG (X.blk s H scope (compEnvC scope cl C X.env) fp) tg1 gt1) (ht1 : ∀ (s : Shared) (H : Hp) (C : Addr) (cl : List (Str × Addr)) (fp : List Addr), STs (X.blk s H scope (compEnvC scope cl C X.env) fp) E ifs1 t1)
    (he : ∀ (s : Shared) (H : Hp) (C : Addr) (cl : List (Str × Addr)) (fp : List Addr), SE (X.blk s H scope (compEnvC scope cl C X.env) fp) E elt e) (hy : X.N[i]? = some y := by rfl) (hyl : X.env.scope.names.lookup y = some .local := by rfl)
    (hsw : swapsWith (.ListComp elt [⟨tg, iter, ifs, 0⟩, ⟨tg1, iter1, ifs1, 0⟩] scope pos) (some (.Name y py)) spos.line X.env = pure true := by exact sw_true rfl rfl rfl (by decide +kernel))
    (hs : ∀ x, foldedSetIterable iter X.env x = pure x := by intro _; rfl) (hs1 : ∀ env x, foldedSetIterable iter1 env x = pure x := by intro _ _; rfl) :
    SS X E (.Assign [.Name y py] (.ListComp elt [⟨tg, iter, ifs, 0⟩, ⟨tg1, iter1, ifs1, 0⟩] scope pos) spos) (setS i (comp2F mi g t mi1 g1 t1 e (own.map (·.2)) vs1)) :=
  PS.imp (ps_setLc2 (wi1 := TIof X.K E mi1) (g1 := gt1) (tt := TTof X.K E t) (tt1 := TTof X.K E t1) (te := TEof X.K E e) hc hN hy hyl hsw hi ok hvs hg ht hi1 hg1 ht1 he hs hs1) (ts_set (te_comp2F hgt hgt1))
end
end PL

/-! PL28: a body that may raise, and a handler that says of what class the exception was. -/
namespace PL
open PySem PySem.Spec PyProof.Rows L2
def tryIsM (m : Env → M Out) (k : Str → Option Bool) (env : Env) : M Out := fun s => match m env s with
  | .stuck => .stuck
  | .ok o s' => .ok o s'
  | .exc c s' => match k c with
    | some b => .ok (.rt (.bl b)) s'
    | none => .stuck
theorem tryIs_exc {m : Env → M Out} {k : Str → Option Bool} {env : Env} {s s' : S} {c : Str} {b : Bool} (h : m env s = .exc c s') (hk : k c = some b) : tryIsM m k env s = .ok (.rt (.bl b)) s' := by
  unfold tryIsM
  rw [h]
  show (match k c with | some b => R.ok (Out.rt (D.bl b)) s' | none => .stuck) = _
  rw [hk]
theorem tryIs_ok {m : Env → M Out} {k : Str → Option Bool} {env : Env} {s s' : S} {o : Out} (h : m env s = .ok o s') : tryIsM m k env s = .ok o s' := by
  unfold tryIsM
  rw [h]
theorem exm_of {K : PySem.W.Frag} {cls : Value} {R : Addr} {b : Bool} (h1 : PySem.W.subIn K (.ref R) (.type "BaseException") = some true) (h2 : PySem.W.isClsIn K R = true) (h3 : PySem.W.typeIn K (.ref R) = some (.type "type")) (h4 : PySem.W.subIn K cls (.ref R) = some b) :
    PySem.W.exmOne K cls (.ref R) = some b := by
  have e1 : (PySem.W.subIn K (.ref R) (.type "BaseException") == some true) = true := by rw [h1] <;> rfl
  have e2 : ((PySem.W.clsIn K R).isSome && PySem.W.typeIn K (.ref R) == some (.type "type")) = true := by
    have h2' : (PySem.W.clsIn K R).isSome = true := h2
    rw [h2', h3] <;> rfl
  show (if (PySem.W.subIn K (.ref R) (.type "BaseException") == some true) = true then (if ((PySem.W.clsIn K R).isSome && PySem.W.typeIn K (.ref R) == some (.type "type")) = true then PySem.W.subIn K cls (.ref R) else none) else none) = some b
  rw [if_pos e1, if_pos e2]
  exact h4
theorem kit_self {K : PySem.W.Frag} {R : Addr} : PySem.W.kitOne K (.ref R) (.ref R) = some true := by
  unfold PySem.W.kitOne
  rw [if_pos (beq_self_eq_true _)]
theorem kit_of {K : PySem.W.Frag} {C R : Addr} {b : Bool} (hn : (Value.ref C == Value.ref R) = false) (h2 : PySem.W.isClsIn K R = true) (h3 : PySem.W.typeIn K (.ref R) = some (.type "type")) (h4 : PySem.W.subIn K (.ref C) (.ref R) = some b) :
    PySem.W.kitOne K (.ref C) (.ref R) = some b := by
  have e2 : ((PySem.W.clsIn K R).isSome && PySem.W.typeIn K (.ref R) == some (.type "type")) = true := by
    have h2' : (PySem.W.clsIn K R).isSome = true := h2
    rw [h2', h3] <;> rfl
  show (if (Value.ref C == Value.ref R) = true then some true else (if ((PySem.W.clsIn K R).isSome && PySem.W.typeIn K (.ref R) == some (.type "type")) = true then PySem.W.subIn K (.ref C) (.ref R) else none)) = some b
  rw [if_neg (by rw [hn]; decide), if_pos e2]
  exact h4
/-- what the class x must have to be caught by R and asked whether it is Y -/
structure CatC (K : PySem.W.Frag) (R Y : Value) (x : Str) (C : Addr) (b : Bool) : Prop where
  n : ClsAt K x C
  e : PySem.W.exmOne K (.ref C) R = some true
  i : L2.ExcC K C
  k : PySem.W.kitOne K (.ref C) Y = some b
theorem kc_nil {K : PySem.W.Frag} {R : Value} {Y : Addr} : ∀ (C : Str) (b : Bool), List.lookup C ([] : List (Str × Bool)) = some b → ∃ A, CatC K R (.ref Y) C A b := fun _ _ h => (by cases h)
theorem kc_cons {K : PySem.W.Frag} {R : Value} {Y A : Addr} {x : Str} {b : Bool} {l : List (Str × Bool)} (h : CatC K R (.ref Y) x A b) (t : ∀ (C : Str) (b : Bool), List.lookup C l = some b → ∃ A, CatC K R (.ref Y) C A b) : ∀ (C : Str) (b' : Bool), List.lookup C ((x, b) :: l) = some b' → ∃ A, CatC K R (.ref Y) C A b' := fun C b' e => by
  rw [List.lookup_cons] at e
  split at e
  · rename_i q
    cases e
    have := eq_of_beq q
    subst this
    exact ⟨A, h⟩
  · exact t C b' e
section
variable {X : Cx} {E : XK}
theorem passR (tk : Takes X (fun cls d _ H => E cls d H)) : Passes (L2.CX X.prog X.w) X E := passes_call tk (fun _ _ _ _ h => h)
theorem ss_tryIs {x y n : Str} {c : Value} {Cy : Addr} {i : Nat} {body : List Stmt} {m : Env → M Out} {k : Str → Option Bool} {np p1 p2 p3 p4 p5 pos pos' : Pos}
    (hs : X.stack = X.env :: X.outer) (hf : X.env.frame = some X.env.locals) (hN : X.N.Nodup) (hi : X.N[i]? = some n) (hln : X.env.kindOf n = some .local)
    (hc : Names X x c) (hy : X.mg y = some (.ref Cy)) (gy : Gl X y) (gi : Gl X "isinstance") (mi : X.mg "isinstance" = none)
    (hk : ∀ C b, k C = some b → ∃ A, CatC X.K c (.ref Cy) C A b)
    (hb : ∀ pn xe E', Takes (X.tr pn xe) (fun cls d _ H => E' cls d H) → SSs (X.tr pn xe) E' body m)
    (hd : (n == ("__debug__" : Str)) = false := by decide) (hcd : (n == ("__classdict__" : Str)) = false := by decide) (hdy : (y == ("__debug__" : Str)) = false := by decide)
    (hbi : bootBuiltins "isinstance" = some (.builtin "isinstance") := by decide +kernel) :
    SS X E (.Try body [.ExceptHandler (some (.Name x np)) (some n) [.Return (some (.Call (.Name "isinstance" p1) [.Name n p2, .Name y p3] [] p4)) p5] pos'] [] [] pos) (tryIsM m k) := by
  let E' : WX → XK := fun W cls d H => ∀ σ : L2.St, σ.length = X.N.length → W cls d σ H
  refine PS.imp (ps_try_as (tb := fun W => TSof X.K (E' W) m) (ts := fun a cls d D σ H => ∃ A b, cls = .ref A ∧ d = none ∧ PySem.W.kitOne X.K (.ref A) (.ref Cy) = some b ∧ L2.ExcC X.K A ∧ σ[i]? = some (some (.ref a)) ∧ D.rt (.bl b) H) (Wout := fun _ _ _ _ => False) hs hf hN hi hln hc takes0 (fun W pn xe tk _ => ?_) (fun a oe cls d pn hz hv => ?_)) ?_
  · -- the body
    refine hb pn xe (E' W) fun u s' h => ?_
    obtain ⟨a, B, sI, pins, σ, H, cls, d, e, I, nb, up, sky, na, os, ag, w⟩ := h
    exact tk u s' ⟨a, B, sI, pins, σ, H, cls, d, e, I, nb, up, sky, na, os, ag, w σ I.len⟩
  · -- the suite
    refine ⟨fun pins s σ H D I h => ?_⟩
    obtain ⟨A, b, rfl, rfl, hb1, he, hσ, hr⟩ := h
    have vv : Vis X.env.scope n := .inl hln
    have P : PE (X.suite a ((a, oe) :: pn)) (.Call (.Name "isinstance" p1) [.Name n p2, .Name y p3] [] p4) _ :=
      pe_callB (X := X.suite a ((a, oe) :: pn)) (call_isE he hz hv) gi mi hbi (pa_cons (pe_var hi vv hd hcd) (pa_cons (pe_glob gy hy (v := .ref Cy) rfl hdy) pa_nil)) (by decide) (by decide) rfl rfl
    refine (pss_one (ps_ret P)).run pins s σ H D I ?_
    refine ⟨_, hσ, ?_⟩
    exact ⟨.ref Cy, .ref Cy, b, rfl, fun u hu => by cases hu; rfl, hb1, hr⟩
  · rintro Dd σ H ⟨μ, env, s, hv, hs', post⟩
    refine ⟨μ, env, s, hv, hs', ?_⟩
    unfold tryIsM at post
    cases e : m env s with
    | stuck => rw [e] at post; exact post
    | ok o s1 => rw [e] at post; exact post
    | exc C s1 =>
      rw [e] at post
      change Post X.K E μ H (match k C with | some b => R.ok (Out.rt (D.bl b)) s1 | none => .stuck) (okO X.K Dd) at post
      cases hkC : k C with
      | none => rw [hkC] at post; exact (show False from post).elim
      | some b =>
        rw [hkC] at post
        intro A hA μ1 H1 g1 hs1 σ1 hl
        obtain ⟨A', q⟩ := hk C b hkC
        have eA := ClsAt.inj hA q.n
        subst eA
        refine ⟨true, q.e, fun _ a _ => ?_, fun z => (by cases z)⟩
        have hlt : i < X.N.length := (List.getElem?_eq_some_iff.mp hi).1
        exact ⟨A, b, rfl, rfl, q.k, q.i, by rw [List.getElem?_set_self (by rw [hl]; exact hlt)], post μ1 H1 g1 hs1 (.bl b) (.bl b)⟩
end
theorem raiseM_run {C : Str} {me : Env → M D} {env : Env} {s : S} : raiseM C me env s = (me env s).on fun _ s2 => .exc C s2 := bind_on _ _ _
end PL

/-! PL33: tuples that the module has written down. -/
namespace PL
open PySem PySem.Spec PyProof.Rows L2
/-- the name x stands for a written tuple -/
structure TupC (K : PySem.W.Frag) (mg : Str → Option Value) (x : Str) (ds : List D) (a : Addr) : Prop where
  m : mg x = some (.ref a)
  r : ∀ μ H, Rep K μ H (.ref a) (.tup ds)
structure TupIn (K : PySem.W.Frag) (x : Str) (ds : List D) : Prop where
  ex : ∃ (a : Addr) (vs : List V), PySem.W.nsIn K mainGlobals x = some (some (.ref a)) ∧ (∀ H, SqT K H a vs) ∧ ∀ μ H, RepL K μ H vs ds
theorem TupIn.mk2 {K : PySem.W.Frag} {x : Str} {ds : List D} {a : Addr} {o : Obj} {its : Array Value} {n : Nat} {vs : List V} (hn : PySem.W.nsIn K mainGlobals x = some (some (.ref a))) (hl : K.lookup a = some o) (hc : o.cls = .type "tuple") (hd : o.data = .seq its n) (hz : its.size ≤ sizeLine) (hv : Vals vs its.toList) (hr : ∀ μ H, RepL K μ H vs ds) : TupIn K x ds := ⟨a, vs, hn, fun H => .inr ⟨o, its, n, hl, hc, hd, hz, hv⟩, hr⟩
theorem TupIn.get {K : PySem.W.Frag} {h : Heap} {mg : Str → Option Value} {x : Str} {ds : List D} (T : TupIn K x ds) (X : K.In h) (G : h.Ns mainGlobals mg) : ∃ a, TupC K mg x ds a := by
  obtain ⟨a, vs, hn, hs, hr⟩ := T.ex
  exact ⟨a, PySem.W.mg_of X G hn, fun μ H => .tup (hs H) (hr μ H)⟩
theorem se_tupc {X : Cx} {E : XK} {pos : Pos} {x : Str} {ds : List D} {a : Addr} (hg : Gl X x) (T : TupC X.K X.mg x ds a) (hd : (x == ("__debug__" : Str)) = false := by decide) : SE X E (.Name x pos) (cM (.tup ds)) := se_glob (v := .ref a) hg T.m (show RelV (.ref a) (.ref a) from rfl) T.r hd
end PL

/-! PL34: the facts of the top by a hook (a small compiled file). -/
namespace PL
open PySem PySem.Spec PyProof.Rows L2
section
variable {K : PySem.W.Frag}
theorem glo_in {x : Str} (c : (He.Fa.glo x).ok K = true) : PySem.W.nsIn K mainGlobals x = some (some (.ref (He.ga K x))) := He.eqO_ok c
theorem free_in {x : Str} (c : (He.Fa.free x).ok K = true) : PySem.W.nsIn K mainGlobals x = some none := He.eqO_ok c
theorem int_in {x : Str} {i : Int} (c : (He.Fa.int x i).ok K = true) : ∃ t, PySem.W.nsIn K mainGlobals x = some (some (.int i t)) := by
  have c : (match PySem.W.nsIn K mainGlobals x with
    | some (some (.int j _)) => decide (j = i)
    | _ => false) = true := c
  split at c
  · rename_i j t e
    have := of_decide_eq_true c
    subst this
    exact ⟨t, e⟩
  · cases c
theorem str_in {x z : Str} (c : (He.Fa.str x z).ok K = true) : ∃ t, PySem.W.nsIn K mainGlobals x = some (some (.str z t)) := by
  have c : (match PySem.W.nsIn K mainGlobals x with
    | some (some (.str j _)) => decide (j = z)
    | _ => false) = true := c
  split at c
  · rename_i j t e
    have := of_decide_eq_true c
    subst this
    exact ⟨t, e⟩
  · cases c
theorem defIn_of {x : Str} {st : Stmt} {fd : FuncData} (F : FunD K x x (defArgs st) (defBody st) (defScope st) [] [] (He.ga K x) fd) (c : (He.Fa.glo x).ok K = true) : DefIn K x st := by
  obtain ⟨oc, od, dV, kV, doc, pm, an, cdv, ct, osl, e, lk, hcd, hD, hK⟩ := F.ex
  have e0 : dV = .none := by
    rcases hD with ⟨_, h⟩ | ⟨h, _⟩
    · exact h
    · exact absurd rfl h
  subst e0
  subst e
  exact DefIn.mk (glo_in c) lk hcd F.kp
theorem metIn_of {C x qual : Str} {st : Stmt} {fd : FuncData} (F : FunD K x qual (defArgs st) (defBody st) (defScope st) [] [] (He.ma K (He.ga K C) x) fd) (c : (He.Fa.meth C x).ok K = true) : MetIn K (He.ga K C) x qual st := by
  obtain ⟨oc, od, dV, kV, doc, pm, an, cdv, ct, osl, e, lk, hcd, hD, hK⟩ := F.ex
  have e0 : dV = .none := by
    rcases hD with ⟨_, h⟩ | ⟨h, _⟩
    · exact h
    · exact absurd rfl h
  subst e0
  subst e
  have m := He.meth_ok c
  exact MetIn.mk m.at_ m.fn lk hcd F.kp
theorem clsIn_of {x : Str} (g : (He.Fa.glo x).ok K = true) (c : (He.Fa.cls x).ok K = true) : ClsIn K x (He.ga K x) := by
  obtain ⟨a, b, d, e⟩ := He.cls_ok c
  exact ClsIn.mk (glo_in g) a b d e
theorem mkr_of {x : Str} (c : (He.Fa.mkr x).ok K = true) : PySem.W.makesIn K (He.ga K x) = true ∧ PySem.W.keepIn K (.ref (He.ga K x)) = true := by
  obtain ⟨a, b, d, e⟩ := He.mkr_ok c
  exact ⟨a, e⟩
theorem tupIn_of {x : Str} {ds : List D} {vs : List He.Dv} (g : (He.Fa.glo x).ok K = true) (c : He.tupB K x vs = true) (r : ∀ μ H, RepL K μ H (vs.map (He.Dv.v K)) ds) : TupIn K x ds := ⟨He.ga K x, _, glo_in g, fun H => He.tupB_ok c H, r⟩
theorem ex_at {l : List (PySem.W.Frag → Bool)} (c : (l.all fun f => f K) = true) (i : Nat) {f : PySem.W.Frag → Bool} (h : l[i]? = some f := by rfl) : f K = true := List.all_eq_true.mp c f (List.mem_of_getElem? h)
end
end PL

/-! PL35: a list unpacked into names. -/
namespace PL
open PySem PySem.Spec PyProof.Rows L2
def gUnlM (n : Nat) (gs : List D → Env → M Env) (d : D) (env : Env) : M Env := fun s => match d with
  | .vls ds => if ds.length = n then gs ds env s else .stuck
  | .ptr k => (match s[k]? with
    | some (.lst ds) => if ds.length = n then gs ds env s else .stuck
    | _ => .stuck)
  | _ => .stuck
theorem sg_unl {X : Cx} {E : XK} {pos : Pos} {es : List Expr} {k n : Nat} {gs : List D → Env → M Env} (hc : X.calm = true) (h : SGs X E es gs) (hn : (assignEach es X.env).length = n := by rfl) (hst : (assignEach es X.env).findIdx? (·.1) = none := by rfl) : SG X E (.Tuple es k pos) (gUnlM n gs) := PG.imp (pg_unl hc h hn hst) (by
  rintro v σ H Q ⟨μ, env, s, d, hv, hs, r, post⟩
  unfold gUnlM at post
  cases r with
  | @vls a xs ds ht hl =>
    simp only [] at post
    split at post
    · rename_i hn
      exact ⟨a, xs, rfl, ht.sqL, hl.length.trans hn, μ, env, s, ds, hv, hs, hl, post⟩
    · exact (show False from post).elim
  | @ptr a m hm =>
    simp only [] at post
    split at post
    · rename_i ds e
      split at post
      · rename_i hn
        obtain ⟨xs, ha, hl⟩ := cell_lst hs hm e
        exact ⟨a, xs, rfl, SqL.of ha, hl.length.trans hn, μ, env, s, ds, hv, hs, hl, post⟩
      · exact (show False from post).elim
    · exact (show False from post).elim
  | _ => exact (show False from post).elim)
section
variable {s : S} {env : Env}
theorem gUnl_vls {n : Nat} {gs : List D → Env → M Env} {ds : List D} (h : ds.length = n) : gUnlM n gs (.vls ds) env s = gs ds env s := by
  unfold gUnlM
  simp only [if_pos h]
theorem gUnl2 (gs : List D → Env → M Env) (a b : D) : gUnlM 2 gs (.vls [a, b]) env s = gs [a, b] env s := gUnl_vls rfl
theorem gUnl3 (gs : List D → Env → M Env) (a b c : D) : gUnlM 3 gs (.vls [a, b, c]) env s = gs [a, b, c] env s := gUnl_vls rfl
theorem gUnl_cell {n m : Nat} {gs : List D → Env → M Env} {ds : List D} (e : s[m]? = some (.lst ds)) (h : ds.length = n) : gUnlM n gs (.ptr m) env s = gs ds env s := by
  unfold gUnlM
  simp only [e, if_pos h]
end
end PL

/-! PL37: enumerate; the two slices that go back; how often True is in a list. -/
namespace PL
open PySem PySem.Spec PyProof.Rows L2
/-! ### enumerate -/
def enumI (xs : List D) : List D := List.zipWith (fun (i : Nat) x => .tup [.int (i : Int), x]) (List.range xs.length) xs
def enumD (ds : List D) : M Src := fun s => match ds with
  | [x] => (match seqC s x with
    | some (xs, c) => .ok ⟨enumI xs, c⟩ s
    | none => .stuck)
  | _ => .stuck
theorem enumI_get {xs : List D} {i : Nat} {d : D} (e : (enumI xs)[i]? = some d) : ∃ x, xs[i]? = some x ∧ d = .tup [.int (i : Int), x] := by
  unfold enumI at e
  rw [List.getElem?_zipWith] at e
  cases h2 : xs[i]? with
  | none =>
    rw [h2] at e
    cases h1 : (List.range xs.length)[i]? with
    | none => rw [h1] at e; cases e
    | some _ => rw [h1] at e; cases e
  | some x =>
    have hi := (List.getElem?_eq_some_iff.mp h2).1
    rw [h2, List.getElem?_range hi] at e
    exact ⟨x, rfl, (Option.some.inj e).symm⟩
theorem enumI_len {xs : List D} : (enumI xs).length = xs.length := by
  unfold enumI
  rw [List.length_zipWith, List.length_range, Nat.min_self]
theorem good_enum {K : PySem.W.Frag} {μ : Mu} {H : Hp} {a : Addr} {xs : List V} {ds : List D} {c : Option (Nat × List D)} (h1 : StL K μ H a xs ds c) : GoodIt K μ H (Ite K a) ⟨enumI ds, c⟩ := fun μ' H' s g hs ok => by
  obtain ⟨us, k1, l1⟩ := h1 μ' H' s g hs ok
  refine ⟨fun i d e => ?_, us, k1, ?_⟩
  · obtain ⟨x, e1, rfl⟩ := enumI_get e
    obtain ⟨u, hu, ru⟩ := l1.get e1
    refine ⟨⟨us, u, k1, hu⟩, fun w H2 y2 => ?_⟩
    obtain ⟨T, x', rfl, hT, rfl, q1⟩ := y2
    have e3 : u = x' := Option.some.inj (hu.symm.trans (q1 us k1))
    subst e3
    exact ⟨grow_new hT, hs.lay hT, .tup (SqT.of upd_same) (RepL.grow (grow_new hT) _ _ (.cons (.int _) (.cons ru .nil)))⟩
  · have a1 := l1.length
    show us.length ≤ (enumI ds).length
    rw [enumI_len]
    omega
section
variable {X : Cx} {E : XK} {e : Expr} {mr : Env → M (List D)} {p pos tpos : Pos} {elts : List Expr} {kk : Nat}
theorem si_enum (hg : Gl X "enumerate") (hm : X.mg "enumerate" = none) (ha : SA X E [e] mr) (hs0 : starEach [e] X.env = [(false, eval e X.env)] := by rfl) :
    SI X E (.Tuple elts kk tpos) (.Call (.Name "enumerate" p) [e] [] pos) (srcA enumD mr) := PI.imp (pi_enum hg hm ha hs0) (by
  rintro σ H R ⟨μ, env, s, hv, hs, post⟩
  refine ⟨μ, env, s, hv, hs, (Post.bind post).mono fun ds s1 μ1 H1 g1 hs1 p1 vs hl => ?_⟩
  unfold enumD at p1
  split at p1
  · rename_i x
    cases hl with
    | cons r t =>
      cases t
      split at p1
      · rename_i xs c e1
        obtain ⟨a, us, rfl, h1, k1⟩ := seqC_rep hs1 r e1
        exact ⟨a, us, rfl, h1, Post.now (a := (⟨enumI xs, c⟩ : Src)) p1 hs1 _ (good_enum k1)⟩
      · exact (show False from p1).elim
  · exact (show False from p1).elim)
end
/-! ### xs[-2::-1], xs[:0:-1] -/
theorem down_range (n k : Nat) (h : k ≤ n) : sliceRange ((n : Int) - 1) ((k : Int) - 1) (-1) = ((List.range (n - k)).map fun j => n - 1 - j) := by
  unfold sliceRange
  have h1 : ¬ ((-1 : Int) > 0) := by decide
  by_cases hh : (n : Int) - 1 > (k : Int) - 1
  · have e : ((n : Int) - 1 - ((k : Int) - 1) - -1 - 1) / (- -1) = ((n - k : Nat) : Int) := by
      rw [show (- -1 : Int) = 1 by decide, Int.ediv_one]
      omega
    simp only [h1, if_false, hh, if_true, e, Int.toNat_natCast]
    apply List.map_congr_left
    intro j hj
    have := List.mem_range.mp hj
    omega
  · have e : n - k = 0 := by omega
    simp only [h1, if_false, hh, e]
    rfl
theorem down_pick {α : Type} (l : List α) (n k : Nat) (hn : n ≤ l.length) (h : k ≤ n) : ((List.range (n - k)).map fun j => n - 1 - j).filterMap (fun i => l[i]?) = ((l.take n).drop k).reverse := by
  rw [List.filterMap_map]
  apply List.ext_getElem?
  intro i
  have len : ((l.take n).drop k).length = n - k := by rw [List.length_drop, List.length_take, Nat.min_eq_left hn]
  have key : (List.range (n - k)).filterMap ((fun i => l[i]?) ∘ fun j => n - 1 - j) = ((List.range (n - k)).attach.map fun j => l[n - 1 - j.1]'(by have := List.mem_range.mp j.2; omega)) := by
    have : ∀ (r : List Nat) (hr : ∀ j ∈ r, j < n - k), r.filterMap ((fun i => l[i]?) ∘ fun j => n - 1 - j) = r.attach.map fun j => l[n - 1 - j.1]'(by have := hr j.1 j.2; omega) := by
      intro r
      induction r with
      | nil => intro _; rfl
      | cons a r ih =>
        intro hr
        have ha := hr a List.mem_cons_self
        have hb : n - 1 - a < l.length := by omega
        have e : ((fun i => l[i]?) ∘ fun j => n - 1 - j) a = some (l[n - 1 - a]'hb) := List.getElem?_eq_getElem hb
        rw [List.filterMap_cons, e]
        rw [ih fun j hj => hr j (List.mem_cons_of_mem _ hj)]
        simp
    exact this _ fun j hj => List.mem_range.mp hj
  rw [key]
  by_cases hi : i < n - k
  · rw [List.getElem?_map, List.getElem?_reverse (by omega), List.getElem?_drop, List.getElem?_take, if_pos (by omega), len]
    rw [List.getElem?_eq_getElem (by rw [List.length_attach, List.length_range]; exact hi)]
    rw [List.getElem?_eq_getElem (by omega)]
    simp
    congr 1
    omega
  · rw [List.getElem?_eq_none (by rw [List.length_map, List.length_attach, List.length_range]; omega), List.getElem?_eq_none (by rw [List.length_reverse, len]; omega)]
theorem pick_but (its : List Value) : slicePick its.toArray (some (-2)) none (some (-1)) = its.dropLast.reverse.toArray := by
  have e : sliceRange (sliceBounds (some (-2)) none (some (-1)) its.toArray.size).1 (sliceBounds (some (-2)) none (some (-1)) its.toArray.size).2.1 (sliceBounds (some (-2)) none (some (-1)) its.toArray.size).2.2 = (List.range (its.length - 1 - 0)).map fun j => its.length - 1 - 1 - j := by
    rw [← down_range (its.length - 1) 0 (Nat.zero_le _)]
    unfold sliceBounds
    simp only [Option.getD_some, show ¬ ((-1 : Int) > 0) from by decide, if_false, List.size_toArray, show ((-2 : Int) < 0) from by decide, if_true]
    by_cases h : its.length = 0
    · rw [h]; rfl
    · by_cases h1 : its.length = 1
      · rw [h1]; rfl
      · congr 1
        rw [Int.min_def, Int.max_def]
        split <;> split <;> omega
  unfold slicePick
  rw [e]
  have := down_pick its (its.length - 1) 0 (by omega) (Nat.zero_le _)
  rw [List.drop_zero, ← List.dropLast_eq_take] at this
  rw [← this]
  simp only [List.getElem?_toArray]
theorem pick_tail (its : List Value) : slicePick its.toArray none (some 0) (some (-1)) = (its.drop 1).reverse.toArray := by
  by_cases h : its.length = 0
  · have : its = [] := List.eq_nil_of_length_eq_zero h
    subst this
    rfl
  · have e : sliceRange (sliceBounds none (some 0) (some (-1)) its.toArray.size).1 (sliceBounds none (some 0) (some (-1)) its.toArray.size).2.1 (sliceBounds none (some 0) (some (-1)) its.toArray.size).2.2 = (List.range (its.length - 1)).map fun j => its.length - 1 - j := by
      rw [← down_range its.length 1 (by omega)]
      unfold sliceBounds
      simp only [Option.getD_some, show ¬ ((-1 : Int) > 0) from by decide, if_false, List.size_toArray, show ¬ ((0 : Int) < 0) from by decide]
      congr 1
      rw [Int.min_def, Int.max_def]
      split <;> split <;> omega
    unfold slicePick
    rw [e]
    have := down_pick its its.length 1 (Nat.le_refl _) (by omega)
    rw [List.take_length] at this
    rw [← this]
    simp only [List.getElem?_toArray]
def tStepL (K : PySem.W.Frag) (f : List V → List V) (te : TE) : TE := fun σ H Q => te σ H fun x H1 => ∃ a xs, x = .ref a ∧ SqL K H1 a xs ∧ ∀ p, H1 p = none → Q (.ref p) (upd H1 p (.lst (f xs)))
section
variable {X : Cx}
theorem pe_stepL {e : Expr} {te : TE} {lo hi : Option Expr} {tl th : TO} {il ih : Option Int} {k : Nat} {p1 p2 p3 pos : Pos} {f : List V → List V} {fv : List Value → List Value} (he : PE X e te) (hl : PO X lo tl) (hh : PO X hi th) (gl : ∀ σ H Q, Q il H → tl σ H Q) (gh : ∀ σ H Q, Q ih H → th σ H Q)
    (hpick : ∀ its : List Value, slicePick its.toArray il ih (some (-1)) = (fv its).toArray) (hfv : ∀ {xs us}, Vals xs us → Vals (f xs) (fv us)) (hlen : ∀ xs : List V, (f xs).length ≤ xs.length)
    (hsub : ∀ (a b : Addr), subscripted (.Slice lo hi (some (.UnaryOp .USub (.Constant (.int 1) k p1) p2)) p3) false (.ref a) (.ref b) = operate [.ref a, .ref b] (getItem (.ref a) (.ref b)) := by intro a b; with_unfolding_all rfl) :
    PE X (.Subscript e (.Slice lo hi (some (.UnaryOp .USub (.Constant (.int 1) k p1) p2)) p3) pos) (tStepL X.K f te) := by
  refine ⟨fun pins s σ H Q I h => ?_⟩
  refine Subscript_ (thn (he.run pins s σ H _ I h) fun v s1 ⟨x, H1, I1, r1, q1⟩ => ?_)
  obtain ⟨a, xs, ex, hx, q⟩ := q1
  subst ex
  cases r1
  have hst : PO X (some (.UnaryOp .USub (.Constant (.int 1) k p1) p2)) (tPart (tUn (rU fun i => .int (-i)) (tC (.int 1)))) := po_some (pe_un un_neg pe_int)
  refine wpAny_Slice (thn (hl.run pins s1 σ H1 (fun o H2 => o = il ∧ H2 = H1) I1 (gl _ _ _ ⟨rfl, rfl⟩)) fun vl s2 ⟨l, H2, I2, pl, el, e2⟩ => ?_)
  subst el e2
  refine thn (hh.run pins s2 σ H2 (fun o H3 => o = ih ∧ H3 = H2) I2 (gh _ _ _ ⟨rfl, rfl⟩)) fun vu s3 ⟨u, H3, I3, pu, eu, e3⟩ => ?_
  subst eu e3
  refine thn (hst.run pins s3 σ H3 (fun o H4 => o = some (-1) ∧ H4 = H3) I3 ⟨1, rfl, -1, rfl, rfl, rfl⟩) fun vs s4 ⟨o, H4, I4, ps, eo, e4⟩ => ?_
  subst eo e4
  have I5 : Inv X pins σ H4 { s4 with heap := s4.heap.push { cls := .type "slice", data := .fields #[vl, vu, vs] } } := I4.kept (t' := s4.toks) fun b ob q => Heap.get?_push_of_some _ q
  obtain ⟨its, r, ht, hz⟩ := I5.list hx
  have hlen' := r.length
  refine tail_any (ops := [.ref a, .ref s4.heap.objs.size]) ht.isList.typeIs (PySem.slot_list_getitem.lookup) ?_ (hsub _ _)
  refine wpAny_getItem_list_slice ht.isList (Heap.IsSliceOf.new _ vl vu vs) pl pu ps (by decide) ?_ (by rw [List.size_toArray]; omega)
  rw [hpick]
  refine ⟨.ref _, _, I5.laid (t' := s4.toks) (o := .lst (f xs)) (fun b ob q => Heap.get?_push_of_some _ q) (Nat.le_refl _) ?_, rfl, q _ (I5.hok.fresh (Nat.le_refl _))⟩
  exact ⟨Nat.le_trans (hlen _) hz, _, 0, hfv r, Heap.get?_push_size _ rfl⟩
end
def butD (x : D) : M D := match x with
  | .flst ds => pure (.vls ds.dropLast.reverse)
  | .vls ds => pure (.vls ds.dropLast.reverse)
  | _ => stuck
def tailD (x : D) : M D := match x with
  | .flst ds => pure (.vls (ds.drop 1).reverse)
  | .vls ds => pure (.vls (ds.drop 1).reverse)
  | _ => stuck
theorem but_rep {K : PySem.W.Frag} {μ : Mu} {H : Hp} : ∀ {xs : List V} {ds : List D}, RepL K μ H xs ds → RepL K μ H xs.dropLast ds.dropLast
  | _, _, .nil => .nil
  | _, _, .cons h .nil => .nil
  | _, _, .cons h (.cons h2 t) => .cons h (but_rep (.cons h2 t))
theorem drop_rep {K : PySem.W.Frag} {μ : Mu} {H : Hp} : ∀ {xs : List V} {ds : List D}, RepL K μ H xs ds → RepL K μ H (xs.drop 1) (ds.drop 1)
  | _, _, .nil => .nil
  | _, _, .cons h t => t
section
variable {X : Cx} {E : XK}
theorem te_step {K : PySem.W.Frag} {me : Env → M D} {fD : D → M D} {g : List D → List D} {f : List V → List V} (hf : ∀ d s r, fD d s = .ok r s → ∃ ds, (d = .flst ds ∨ d = .vls ds) ∧ r = .vls (g ds)) (hst : ∀ d s, fD d s = .stuck ∨ ∃ r, fD d s = .ok r s)
    (hr : ∀ {μ H xs ds}, RepL K μ H xs ds → RepL K μ H (f xs) (g ds)) : ∀ σ H Q, TEof K E (unM fD me) σ H Q → tStepL K f (TEof K E me) σ H Q := by
  rintro σ H Q ⟨μ, env, s, hv, hs, post⟩
  refine ⟨μ, env, s, hv, hs, (Post.bind post).mono fun x s1 μ1 H1 g1 hs1 p1 v hx => ?_⟩
  rcases hst x s1 with e | ⟨r, e⟩
  · rw [e] at p1
    exact (show False from p1).elim
  · rw [e] at p1
    obtain ⟨ds, hd, rfl⟩ := hf _ _ _ e
    rcases hd with rfl | rfl
    · cases hx with
      | flst ht hl => exact ⟨_, _, rfl, ht.sqL, post_vls hs1 (hr hl) p1⟩
    · cases hx with
      | vls ht hl => exact ⟨_, _, rfl, ht.sqL, post_vls hs1 (hr hl) p1⟩
theorem se_but {e : Expr} {me : Env → M D} {k k2 : Nat} {p1 p2 p3 p4 p5 pos : Pos} (he : SE X E e me) : SE X E (.Subscript e (.Slice (some (.UnaryOp .USub (.Constant (.int 2) k2 p4) p5)) none (some (.UnaryOp .USub (.Constant (.int 1) k p1) p2)) p3) pos) (unM butD me) :=
  PE.imp (pe_stepL (tl := tPart (tUn (rU fun i => .int (-i)) (tC (.int 2)))) (th := tNoPart) (il := some (-2)) (ih := none) (f := fun xs => xs.dropLast.reverse) (fv := fun xs => xs.dropLast.reverse) he (po_some (pe_un un_neg pe_int)) po_none (fun _ _ _ h => ⟨2, rfl, -2, rfl, h⟩) (fun _ _ _ h => h) pick_but (fun h => h.dropLast.reverse) (fun xs => by rw [List.length_reverse, List.length_dropLast]; omega))
    (te_step (g := fun ds => ds.dropLast.reverse) (fun d s r e => by
      cases d <;> first | (cases e; exact ⟨_, .inl rfl, rfl⟩) | (cases e; exact ⟨_, .inr rfl, rfl⟩) | cases e) (fun d s => by
      cases d <;> first | exact .inr ⟨_, rfl⟩ | exact .inl rfl) fun h => rev_rep (but_rep h))
theorem se_tail0 {e : Expr} {me : Env → M D} {k k2 : Nat} {p1 p2 p3 p4 pos : Pos} (he : SE X E e me) : SE X E (.Subscript e (.Slice none (some (.Constant (.int 0) k2 p4)) (some (.UnaryOp .USub (.Constant (.int 1) k p1) p2)) p3) pos) (unM tailD me) :=
  PE.imp (pe_stepL (tl := tNoPart) (th := tPart (tC (.int 0))) (il := none) (ih := some 0) (f := fun xs => (xs.drop 1).reverse) (fv := fun xs => (xs.drop 1).reverse) he po_none (po_some pe_int) (fun _ _ _ h => h) (fun _ _ _ h => ⟨0, rfl, h⟩) pick_tail (fun h => (h.drop 1).reverse) (fun xs => by rw [List.length_reverse, List.length_drop]; omega))
    (te_step (g := fun ds => (ds.drop 1).reverse) (fun d s r e => by
      cases d <;> first | (cases e; exact ⟨_, .inl rfl, rfl⟩) | (cases e; exact ⟨_, .inr rfl, rfl⟩) | cases e) (fun d s => by
      cases d <;> first | exact .inr ⟨_, rfl⟩ | exact .inl rfl) fun h => rev_rep (drop_rep h))
end
/-! ### xs.count(True) -/
def isTrue : Value → Bool
  | .bool b => b
  | _ => false
def trues : List D → Nat
  | [] => 0
  | .bl true :: l => trues l + 1
  | _ :: l => trues l
def blOnly (ds : List D) : Bool := ds.all fun d => match d with
  | .bl _ => true
  | _ => false
def cntD (x : D) : M D := match x with
  | .vls ds => if blOnly ds = true then pure (.int (trues ds : Nat)) else stuck
  | _ => stuck
def rCntB (K : PySem.W.Frag) : V → List V → Hp → VK → Prop := fun x xs H Q => ∃ (p : Addr) (bs : List Bool), x = .ref p ∧ xs = [.bl true] ∧ SqL K H p (bs.map V.bl) ∧ Q (.int (bs.count true : Nat)) H
theorem bls_of : ∀ {bs : List Bool} {us : List Value}, Vals (bs.map V.bl) us → us = bs.map Value.bool
  | [], _, .nil => rfl
  | b :: bs, _, .cons h t => by
    rename_i u us
    have e := bls_of t
    subst e
    have h : u = .bool b := h
    rw [h]
    rfl
theorem mt_bcount {X : Cx} : MtR X "list.count" (rCntB X.K) := by
  intro pins s σ H x xs v us Q I rx rxs h
  obtain ⟨p, bs, rfl, rfl, hs, q⟩ := h
  cases rx
  obtain ⟨u, rfl, ru⟩ := rxs.one
  have eu : u = .bool true := ru
  subst eu
  obtain ⟨its, rv, ⟨⟨cls, dd, data, sl⟩, n, ho, hc, hdn, hd⟩, hlen⟩ := I.list hs
  simp only at hc hd
  subst hc hd
  have hi := bls_of rv
  subst hi
  refine call_meets PySem.F.slot_list_count ⟨_, ho, rfl⟩ PySem.F.entry_list_count (PySem.F.args_list_count_2 _ _)
    (SeqAt.list_countAt p (bs.map Value.bool).toArray n dd sl (.bool true) isTrue) ⟨ho, fun y hy => ?_, ?_⟩
  · have hy : y ∈ bs.map Value.bool := by simpa using hy
    obtain ⟨b, _, rfl⟩ := List.mem_map.mp hy
    have e : isTrue (.bool b) = (b == true) := by cases b <;> rfl
    rw [e]
    exact SeqAt.EqAt.bool_bool b true
  · have ec : ((bs.map Value.bool).toArray.toList.countP isTrue) = bs.count true := by
      show (bs.map Value.bool).countP isTrue = _
      rw [List.countP_map]
      unfold List.count
      congr 1
      funext b
      cases b <;> rfl
    refine ⟨.int (bs.count true : Nat), H, I.tok _, ⟨s.toks, ?_⟩, q⟩
    show Value.int (((bs.map Value.bool).toArray.toList.countP isTrue : Nat) : Int) s.toks = Value.int ((bs.count true : Nat) : Int) s.toks
    rw [ec]
theorem bls_rep {K : PySem.W.Frag} {μ : Mu} {H : Hp} : ∀ {ds : List D} {xs : List V}, blOnly ds = true → RepL K μ H xs ds → ∃ bs : List Bool, xs = bs.map V.bl ∧ bs.count true = trues ds
  | [], _, _, .nil => ⟨[], rfl, rfl⟩
  | d :: ds, _, e, .cons h t => by
    rename_i v vs
    unfold blOnly at e
    rw [List.all_cons, Bool.and_eq_true] at e
    obtain ⟨bs, rfl, e2⟩ := bls_rep (ds := ds) e.2 t
    cases h with
    | bl b =>
      refine ⟨b :: bs, rfl, ?_⟩
      cases b with
      | true => rw [List.count_cons_self, e2]; rfl
      | false =>
        rw [List.count_cons_of_ne (by decide), e2]
        rfl
    | _ => exact absurd (show false = true from e.1) (by decide)
section
variable {X : Cx} {E : XK} {o e : Expr} {mo : Env → M D} {ma : Env → M (List D)} {apos cpos : Pos}
def cntK (us : List D) (ds : List D) : M D := match ds with
  | [.bl true] => cntD (.vls us)
  | _ => stuck
def cntM (mo : Env → M D) (ma : Env → M (List D)) (env : Env) : M D := mo env >>= fun x => match x with
  | .vls us => ma env >>= cntK us
  | _ => stuck
theorem se_count (ho : SE X E o mo) (ha : SA X E [e] ma) (hbase : attributeBase o "count" X.env (eval o X.env) = eval o X.env := by rfl)
    (hline : (apos.endLine == cpos.line) = true := by rfl) (hs : starEach [e] X.env = (false, eval e X.env) :: starEach [] X.env := by rfl) : SE X E (.Call (.Attribute o "count" apos) [e] [] cpos) (cntM mo ma) :=
  PE.imp (pe_bm PySem.F.plainAttrs_list PySem.F.slot_list_count PySem.F.type_list_count mt_bcount ho ha hbase (by rw [hs]; rfl) hline hs rfl) (by
  rintro σ H Q ⟨μ, env, s, hv, hs, post⟩
  refine ⟨μ, env, s, hv, hs, (Post.bind post).mono fun x s1 μ1 H1 g1 hs1 p1 v hx => ?_⟩
  cases hx with
  | @vls a xs us ht hl =>
    refine ⟨.inl ⟨rfl, xs, ht.sqL⟩, μ1, env, s1, hv.grow g1, hs1, (Post.bind p1).mono fun ds2 s2 μ2 H2 g2 hs2 p2 vs hl2 => ?_⟩
    unfold cntK at p2
    split at p2
    · cases hl2 with
      | cons r t =>
        cases t
        cases r
        unfold cntD at p2
        simp only [] at p2
        by_cases hb : blOnly us = true
        · rw [if_pos hb] at p2
          obtain ⟨bs, rfl, ec⟩ := bls_rep hb hl
          refine ⟨a, bs, rfl, rfl, (g2.vls ht).sqL, ?_⟩
          rw [ec]
          exact Post.now (a := D.int (trues us : Nat)) p2 hs2 _ (.int _)
        · rw [if_neg hb] at p2
          exact (show False from p2).elim
    · exact (show False from p2).elim
  | _ => exact (show False from p1).elim)
end
end PL

/-! PL38: del d[k]; the values of a locked dict; how often a text is in a list. -/
namespace PL
open PySem PySem.Spec PyProof.Rows L2
def delD (x y : D) : M Unit := withK x y fun kvs k n s => match valD kvs k with
  | some _ => .ok () (s.set n (.dK (dropKD kvs k)))
  | none => .stuck
def delS (mo mi : Env → M D) (env : Env) : M Out := mo env >>= fun x => mi env >>= fun y => delD x y >>= fun _ => pure (.nx env)
section
variable {X : Cx} {E : XK} {o i : Expr} {mo mi : Env → M D} {tpos pos : Pos}
theorem ss_ddel (ho : SE X E o mo) (hi : SE X E i mi) : SS X E (.Delete [.Subscript o i tpos] pos) (delS mo mi) := PS.imp (ps_ddel ho hi) (by
  rintro Dd σ H ⟨μ, env, s, hv, hs, post⟩
  refine ⟨μ, env, s, hv, hs, (Post.bind post).mono fun x s1 μ1 H1 g1 hs1 p1 v hx => ?_⟩
  refine ⟨μ1, env, s1, hv.grow g1, hs1, (Post.bind p1).mono fun y s2 μ2 H2 g2 hs2 p2 u hy => ?_⟩
  have p3 := Post.bind p2
  unfold delD at p3
  obtain ⟨b, n, xs, kvs, k, rfl, hn, h1, h2, rfl, ec, p4⟩ := cellK hs2 (Rep.grow g2 _ _ hx) hy p3
  rcases val_rep h2 k with ⟨w, d, e1, e2, r⟩ | ⟨e1, e2⟩
  · refine ⟨b, xs, k, rfl, h1, rfl, by rw [e1]; rfl, ?_⟩
    simp only [e2] at p4
    obtain ⟨g3, hs3⟩ := put_cell hs2 hn h1 (dropK_rep (k := k) h2)
    exact okO_next hs3 (((hv.grow g1).grow g2).grow g3) (p4 _ _ g3 hs3)
  · simp only [e2] at p4
    exact (show False from p4).elim)
end
section
variable {s : S}
theorem delS_run {mo mi : PL.Env → M D} {env : PL.Env} : delS mo mi env s = (mo env s).on fun x s1 => (mi env s1).on fun y s2 => (delD x y s2).on fun _ s3 => .ok (.nx env) s3 := by
  show (mo env >>= fun x => mi env >>= fun y => delD x y >>= fun _ => (Pure.pure (.nx env) : M Out)) s = _
  simp only [bind_on]
  rfl
end
/-! ### the values of a locked dict -/
def srcVal (d : D) : M Src := match d with
  | .ptr n => fun s => match s[n]? with
    | some (.fK kvs) => .ok ⟨kvs.map fun kv => kv.2, none⟩ s
    | _ => .stuck
  | _ => stuck
def srcVM (m : Env → M D) (env : Env) : M Src := m env >>= srcVal
theorem good_vals {K : PySem.W.Frag} {μ : Mu} {H : Hp} {a : Addr} {o : Obj} {xs : List (Key × V)} {kvs : List (Key × D)} (h : H a = some (.frz o (.dK xs))) (r : RepK K μ H xs kvs) : GoodIt K μ H (Itd a o xs) ⟨kvs.map fun kv => kv.2, none⟩ := fun μ' H' s g hs ok => by
  have h' := g.frz _ _ _ h
  have hl : xs.length = kvs.length := by
    have := congrArg List.length r.1
    rw [List.length_map, List.length_map] at this
    exact this
  refine ⟨fun i d e => ?_, h', by rw [List.length_map, hl]; exact Nat.le_refl _⟩
  rw [List.getElem?_map] at e
  cases ek : kvs[i]? with
  | none => rw [ek] at e; cases e
  | some kv =>
    rw [ek] at e
    cases e
    have hi : i < xs.length := by rw [hl]; exact (List.getElem?_eq_some_iff.mp ek).1
    refine ⟨⟨h', hi⟩, fun x H2 y => ?_⟩
    obtain ⟨rfl, k, e1⟩ := y
    have e2 : (kvs.map (·.2))[i]? = some kv.2 := by rw [List.getElem?_map, ek]; rfl
    obtain ⟨u, hu, ru⟩ := (RepL.growW g _ _ r.2).get e2
    rw [List.getElem?_map, e1] at hu
    cases hu
    exact ⟨Grow.refl _ _, hs, ru⟩
section
variable {X : Cx} {E : XK} {e tg : Expr} {ma : Env → M D} {apos cpos : Pos}
theorem si_values (ha : SE X E e ma) (hbase : attributeBase e "values" X.env (eval e X.env) = eval e X.env := by rfl) (hline : (apos.endLine == cpos.line) = true := by rfl) : SI X E tg (.Call (.Attribute e "values" apos) [] [] cpos) (srcVM ma) := PI.imp (pi_values ha hbase hline) (by
  rintro σ H R ⟨μ, env, s, hv, hs, post⟩
  refine ⟨μ, env, s, hv, hs, (Post.bind (show Post X.K E μ H ((ma env >>= srcVal) s) _ from post)).mono fun x s1 μ1 H1 g1 hs1 p1 v hx => ?_⟩
  unfold srcVal at p1
  cases hx with
  | @ptr a n hn =>
    cases ec : s1[n]? with
    | none => simp only [ec] at p1; exact (show False from p1).elim
    | some cl =>
      simp only [ec] at p1
      cases cl with
      | fK kvs =>
        obtain ⟨o, xs, h1, h2⟩ := cell_fK hs1 hn ec
        refine ⟨a, o, xs, rfl, h1, ?_⟩
        exact Post.now (E := E) p1 hs1 _ (good_vals h1 h2)
      | lst ds => exact (show False from p1).elim
      | dK kvs => exact (show False from p1).elim
      | dT kvs => exact (show False from p1).elim
      | dN kvs => exact (show False from p1).elim
      | fN kvs => exact (show False from p1).elim
      | ins C fs => exact (show False from p1).elim
  | _ => exact (show False from p1).elim)
end
/-! ### xs.count(text) -/
def isStr (k : Str) : Value → Bool
  | .str y _ => y == k
  | _ => false
def dStrs : List D → Option (List Str) := mapO fun d => match d with
  | .str y => some y
  | _ => none
def rCntT (K : PySem.W.Frag) : V → List V → Hp → VK → Prop := fun x xs H Q => ∃ (p : Addr) (ys : List Str) (k : Str), x = .ref p ∧ xs = [.str k] ∧ SqL K H p (ys.map V.str) ∧ Q (.int (ys.countP (· == k) : Nat)) H
theorem cnt_strs {k : Str} : ∀ {us : List Value} {ys : List Str}, StrsAre us ys → us.countP (isStr k) = ys.countP (· == k)
  | _, _, .nil => rfl
  | _, _, .cons y t r => by
    rw [List.countP_cons, List.countP_cons, cnt_strs r]
    rfl
theorem str_mem {y : Value} : ∀ {us : List Value} {ys : List Str}, StrsAre us ys → y ∈ us → ∃ x t, y = .str x t
  | _, _, .nil, h => by cases h
  | _, _, .cons x t r, h => by
    rcases List.mem_cons.mp h with rfl | h
    · exact ⟨x, t, rfl⟩
    · exact str_mem r h
theorem mt_tcount {X : Cx} : MtR X "list.count" (rCntT X.K) := by
  intro pins s σ H x xs v us Q I rx rxs h
  obtain ⟨p, ys, k, rfl, rfl, hs, q⟩ := h
  cases rx
  obtain ⟨u, rfl, ru⟩ := rxs.one
  obtain ⟨t, rfl⟩ := ru
  obtain ⟨its, rv, ⟨⟨cls, dd, data, sl⟩, n, ho, hc, hdn, hd⟩, hlen⟩ := I.list hs
  simp only at hc hd
  subst hc hd
  have hi := strs_of_vals rv
  refine call_meets PySem.F.slot_list_count ⟨_, ho, rfl⟩ PySem.F.entry_list_count (PySem.F.args_list_count_2 _ _)
    (SeqAt.list_countAt p its.toArray n dd sl (.str k t) (isStr k)) ⟨ho, fun y hy => ?_, ?_⟩
  · obtain ⟨z, tz, rfl⟩ := str_mem hi (by simpa using hy)
    exact SeqAt.EqAt.str_str z tz k t
  · have ec : its.toArray.toList.countP (isStr k) = ys.countP (· == k) := cnt_strs hi
    refine ⟨.int (ys.countP (· == k) : Nat), H, I.tok _, ⟨s.toks, ?_⟩, q⟩
    show Value.int ((its.toArray.toList.countP (isStr k) : Nat) : Int) s.toks = Value.int ((ys.countP (· == k) : Nat) : Int) s.toks
    rw [ec]
theorem dStrs_rep {K : PySem.W.Frag} {μ : Mu} {H : Hp} : ∀ {ds : List D} {xs : List V} {ys : List Str}, dStrs ds = some ys → RepL K μ H xs ds → xs = ys.map V.str
  | [], _, ys, e, .nil => by cases e; rfl
  | d :: ds, _, ys, e, .cons h t => by
    unfold dStrs mapO at e
    cases h with
    | str y =>
      simp only [] at e
      cases q : mapO (fun d : D => match d with | .str y => some y | _ => none) ds with
      | none => rw [q] at e; cases e
      | some zs =>
        rw [q] at e
        cases e
        rw [dStrs_rep (ys := zs) q t]
        rfl
    | _ => cases e
def cntTK (us : List D) (ds : List D) : M D := match ds with
  | [.str k] => (match dStrs us with
    | some ys => pure (.int (ys.countP (· == k) : Nat))
    | none => stuck)
  | _ => stuck
def cntTM (mo : Env → M D) (ma : Env → M (List D)) (env : Env) : M D := mo env >>= fun x => match x with
  | .vls us => ma env >>= cntTK us
  | _ => stuck
section
variable {X : Cx} {E : XK} {o e : Expr} {mo : Env → M D} {ma : Env → M (List D)} {apos cpos : Pos}
theorem se_countT (ho : SE X E o mo) (ha : SA X E [e] ma) (hbase : attributeBase o "count" X.env (eval o X.env) = eval o X.env := by rfl)
    (hline : (apos.endLine == cpos.line) = true := by rfl) (hs : starEach [e] X.env = (false, eval e X.env) :: starEach [] X.env := by rfl) : SE X E (.Call (.Attribute o "count" apos) [e] [] cpos) (cntTM mo ma) :=
  PE.imp (pe_bm PySem.F.plainAttrs_list PySem.F.slot_list_count PySem.F.type_list_count mt_tcount ho ha hbase (by rw [hs]; rfl) hline hs rfl) (by
  rintro σ H Q ⟨μ, env, s, hv, hs, post⟩
  refine ⟨μ, env, s, hv, hs, (Post.bind post).mono fun x s1 μ1 H1 g1 hs1 p1 v hx => ?_⟩
  cases hx with
  | @vls a xs us ht hl =>
    refine ⟨.inl ⟨rfl, xs, ht.sqL⟩, μ1, env, s1, hv.grow g1, hs1, (Post.bind p1).mono fun ds2 s2 μ2 H2 g2 hs2 p2 vs hl2 => ?_⟩
    unfold cntTK at p2
    split at p2
    · cases hl2 with
      | cons r t =>
        cases t
        cases r
        cases ed : dStrs us with
        | none => simp only [ed] at p2; exact (show False from p2).elim
        | some ys =>
          simp only [ed] at p2
          have := dStrs_rep ed hl
          subst this
          exact ⟨a, ys, _, rfl, rfl, (g2.vls ht).sqL, Post.now (a := D.int (ys.countP _ : Nat)) p2 hs2 _ (.int _)⟩
    · exact (show False from p2).elim
  | _ => exact (show False from p1).elim)
end
end PL

/-! PL39: a handler whose suite returns what an expression says of the exception; a text times a truth value. -/
namespace PL
open PySem PySem.Spec PyProof.Rows L2
def tryVM (m : Env → M Out) (k : Str → Option D) (env : Env) : M Out := fun s => match m env s with
  | .stuck => .stuck
  | .ok o s' => .ok o s'
  | .exc c s' => match k c with
    | some d => .ok (.rt d) s'
    | none => .stuck
theorem tryV_exc {m : Env → M Out} {k : Str → Option D} {env : Env} {s s' : S} {c : Str} {d : D} (h : m env s = .exc c s') (hk : k c = some d) : tryVM m k env s = .ok (.rt d) s' := by
  unfold tryVM
  rw [h]
  show (match k c with | some d => R.ok (Out.rt d) s' | none => .stuck) = _
  rw [hk]
theorem tryV_ok {m : Env → M Out} {k : Str → Option D} {env : Env} {s s' : S} {o : Out} (h : m env s = .ok o s') : tryVM m k env s = .ok o s' := by
  unfold tryVM
  rw [h]
/-- what the suite's expression is for an exception of the class at A -/
structure SuiteV (X : Cx) (c : Value) (i : Nat) (e : Expr) (C : Str) (A : Addr) (v : V) (d : D) : Prop where
  hn : ClsAt X.K C A
  he : PySem.W.exmOne X.K (.ref A) c = some true
  hi : L2.ExcC X.K A
  hr : ∀ (μ : Mu) (H : Hp), Rep X.K μ H v d
  hp : ∀ (a : Addr) (oe : Obj) (pn : List (Addr × Obj)), Zc (.ref A) none oe → (∃ vs, oe.data = .fields vs) → ∃ te : TE, PE (X.suite a ((a, oe) :: pn)) e te ∧ ∀ (σ : L2.St) (H : Hp) (Q : VK), σ[i]? = some (some (.ref a)) → Q v H → te σ H Q
section
variable {X : Cx} {E : XK}
theorem ss_tryV {x n : Str} {c : Value} {i : Nat} {body : List Stmt} {m : Env → M Out} {k : Str → Option D} {e : Expr} {np p5 pos pos' : Pos}
    (hs : X.stack = X.env :: X.outer) (hf : X.env.frame = some X.env.locals) (hN : X.N.Nodup) (hi : X.N[i]? = some n) (hln : X.env.kindOf n = some .local)
    (hc : Names X x c)
    (hk : ∀ C d, k C = some d → ∃ A v, SuiteV X c i e C A v d)
    (hb : ∀ pn xe E', Takes (X.tr pn xe) (fun cls d _ H => E' cls d H) → SSs (X.tr pn xe) E' body m) :
    SS X E (.Try body [.ExceptHandler (some (.Name x np)) (some n) [.Return (some e) p5] pos'] [] [] pos) (tryVM m k) := by
  let E' : WX → XK := fun W cls d H => ∀ σ : L2.St, σ.length = X.N.length → W cls d σ H
  refine PS.imp (ps_try_as (tb := fun W => TSof X.K (E' W) m) (ts := fun a cls d D σ H => ∃ C A v d0, cls = .ref A ∧ d = none ∧ SuiteV X c i e C A v d0 ∧ σ[i]? = some (some (.ref a)) ∧ D.rt v H) (Wout := fun _ _ _ _ => False) hs hf hN hi hln hc takes0 (fun W pn xe tk _ => ?_) (fun a oe cls d pn hz hv => ?_)) ?_
  · refine hb pn xe (E' W) fun u s' h => ?_
    obtain ⟨a, B, sI, pins, σ, H, cls, d, e, I, nb, up, sky, na, os, ag, w⟩ := h
    exact tk u s' ⟨a, B, sI, pins, σ, H, cls, d, e, I, nb, up, sky, na, os, ag, w σ I.len⟩
  · refine ⟨fun pins s σ H D I h => ?_⟩
    obtain ⟨C, A, v, d0, rfl, rfl, sv, hσ, hr⟩ := h
    obtain ⟨te, P, hte⟩ := sv.hp a oe pn hz hv
    refine (pss_one (ps_ret P)).run pins s σ H D I ?_
    exact hte σ H _ hσ hr
  · rintro Dd σ H ⟨μ, env, s, hv, hs', post⟩
    refine ⟨μ, env, s, hv, hs', ?_⟩
    unfold tryVM at post
    cases e0 : m env s with
    | stuck => rw [e0] at post; exact post
    | ok o s1 => rw [e0] at post; exact post
    | exc C s1 =>
      rw [e0] at post
      change Post X.K E μ H (match k C with | some d => R.ok (Out.rt d) s1 | none => .stuck) (okO X.K Dd) at post
      cases hkC : k C with
      | none => rw [hkC] at post; exact (show False from post).elim
      | some d =>
        rw [hkC] at post
        intro A hA μ1 H1 g1 hs1 σ1 hl
        obtain ⟨A', v, q⟩ := hk C d hkC
        have eA := ClsAt.inj hA q.hn
        subst eA
        refine ⟨true, q.he, fun _ a _ => ?_, fun z => (by cases z)⟩
        have hlt : i < X.N.length := (List.getElem?_eq_some_iff.mp hi).1
        exact ⟨C, A, v, d, rfl, rfl, q, by rw [List.getElem?_set_self (by rw [hl]; exact hlt)], post μ1 H1 g1 hs1 v (q.hr _ _)⟩
end
/-! ### text * truth value -/
def timesS (a : Str) (b : Bool) : Str := if b = true then a else Str.empty
theorem op_repS {X : Cx} : OpR X (binaryOp .Mult) (fun x y H Q => ∃ (a : Str) (b : Bool), x = .str a ∧ y = .int (if b then 1 else 0) ∧ Q (.str (timesS a b)) H) := by
  intro pins s σ H x y v u Q I rx ry h
  obtain ⟨a, b, rfl, rfl, q⟩ := h
  obtain ⟨t, rfl⟩ := rx
  obtain ⟨t2, rfl⟩ := ry
  cases b with
  | false => exact PySem.P.mul_str_none (by decide) (by decide) ⟨.str Str.empty, H, I.tok _, ⟨_, rfl⟩, q⟩
  | true =>
    refine PySem.P.mul_str (by decide) (fun _ h => absurd h (by simp)) (fun _ h => absurd h (by simp)) ?_
    show Made.post (Made.val (.str a t)) _ s
    exact ⟨.str a, H, I, ⟨_, rfl⟩, q⟩
/-! ### what an expression of a suite is -/
def EvV (Y : Cx) (a : Addr) (i : Nat) (e : Expr) (v : V) : Prop := ∃ te : TE, PE Y e te ∧ ∀ (σ : L2.St) (H : Hp) (Q : VK), σ[i]? = some (some (.ref a)) → Q v H → te σ H Q
section
variable {Y : Cx} {a : Addr} {i : Nat} {e f : Expr} {pos : Pos}
theorem ev_str {x : Str} {j : Nat} : EvV Y a i (.Constant (.str x) j pos) (.str x) := ⟨_, pe_str, fun _ _ _ _ q => q⟩
theorem ev_cat {x y : Str} (h1 : EvV Y a i e (.str x)) (h2 : EvV Y a i f (.str y)) (hl : x.length + y.length ≤ sizeLine) : EvV Y a i (.BinOp e .Add f pos) (.str (x ++ y)) := by
  obtain ⟨t1, P1, k1⟩ := h1
  obtain ⟨t2, P2, k2⟩ := h2
  exact ⟨_, pe_op op_add_str P1 P2, fun σ H Q hσ q => k1 σ H _ hσ (k2 σ H _ hσ ⟨x, y, rfl, rfl, hl, q⟩)⟩
theorem ev_times {x : Str} {b : Bool} (h1 : EvV Y a i e (.str x)) (h2 : EvV Y a i f (.int (if b then 1 else 0))) : EvV Y a i (.BinOp e .Mult f pos) (.str (timesS x b)) := by
  obtain ⟨t1, P1, k1⟩ := h1
  obtain ⟨t2, P2, k2⟩ := h2
  exact ⟨_, pe_op op_repS P1 P2, fun σ H Q hσ q => k1 σ H _ hσ (k2 σ H _ hσ ⟨x, b, rfl, rfl, q⟩)⟩
theorem ev_int {b : Bool} {p : Pos} (gi : Gl Y "int") (mi : Y.mg "int" = none) (h : EvV Y a i e (.bl b)) (he : starEach [e] Y.env = (false, eval e Y.env) :: starEach [] Y.env := by rfl) (hpl : (backTo pos (starEach [] Y.env)).any (·.1) = false := by rfl)
    (hbi : bootBuiltins "int" = some (.type "int") := by decide +kernel) : EvV Y a i (.Call (.Name "int" p) [e] [] pos) (.int (if b then 1 else 0)) := by
  obtain ⟨t, P, k⟩ := h
  refine ⟨_, pe_callTy call_int1 gi mi hbi (pa_cons P pa_nil he) (by decide) rfl he hpl, fun σ H Q hσ q => ?_⟩
  exact k σ H _ hσ (.inr ⟨b, rfl, q⟩)
end
theorem ev_isi {X : Cx} {a A Cy : Addr} {oe : Obj} {pn : List (Addr × Obj)} {i : Nat} {n y : Str} {b : Bool} {p1 p2 p3 p4 : Pos} (hz : Zc (.ref A) none oe) (hv : ∃ vs, oe.data = .fields vs) (he : L2.ExcC X.K A) (hi : X.N[i]? = some n) (hln : X.env.kindOf n = some .local)
    (hy : X.mg y = some (.ref Cy)) (gy : Gl X y) (gi : Gl X "isinstance") (mi : X.mg "isinstance" = none) (hk : PySem.W.kitOne X.K (.ref A) (.ref Cy) = some b)
    (hd : (n == ("__debug__" : Str)) = false := by decide) (hcd : (n == ("__classdict__" : Str)) = false := by decide) (hdy : (y == ("__debug__" : Str)) = false := by decide)
    (hbi : bootBuiltins "isinstance" = some (.builtin "isinstance") := by decide +kernel) : EvV (X.suite a ((a, oe) :: pn)) a i (.Call (.Name "isinstance" p1) [.Name n p2, .Name y p3] [] p4) (.bl b) := by
  have vv : Vis X.env.scope n := .inl hln
  refine ⟨_, pe_callB (X := X.suite a ((a, oe) :: pn)) (call_isE he hz hv) gi mi hbi (pa_cons (pe_var hi vv hd hcd) (pa_cons (pe_glob gy hy (v := .ref Cy) rfl hdy) pa_nil)) (by decide) (by decide) rfl rfl, fun σ H Q hσ q => ?_⟩
  refine ⟨_, hσ, ?_⟩
  exact ⟨.ref Cy, .ref Cy, b, rfl, fun u hu => (by cases hu; rfl), hk, q⟩
theorem kv_nil {X : Cx} {c : Value} {i : Nat} {e : Expr} : ∀ (C : Str) (d : D), List.lookup C ([] : List (Str × D)) = some d → ∃ A v, SuiteV X c i e C A v d := fun _ _ h => (by cases h)
theorem kv_cons {X : Cx} {c : Value} {i : Nat} {e : Expr} {x : Str} {A : Addr} {v : V} {d : D} {l : List (Str × D)} (h : SuiteV X c i e x A v d) (t : ∀ (C : Str) (d : D), List.lookup C l = some d → ∃ A v, SuiteV X c i e C A v d) : ∀ (C : Str) (d' : D), List.lookup C ((x, d) :: l) = some d' → ∃ A v, SuiteV X c i e C A v d' := fun C d' h0 => by
  rw [List.lookup_cons] at h0
  split at h0
  · rename_i q
    cases h0
    have := eq_of_beq q
    subst this
    exact ⟨A, v, h⟩
  · exact t C d' h0
/-! ### range with a step -/
def rngItemsC (lo c : Int) (n : Nat) : List D := (List.range n).map fun (i : Nat) => D.int (lo + (i : Int) * c)
def rng3D (ds : List D) : M Src := match ds with
  | [.int i, .int j, .int c] => if c ≠ 0 ∧ c.natAbs < 1073741824 ∧ Builtin.Range.small i j c = true ∧ Builtin.Range.rangeSize i j c = ((Builtin.Range.rangeSize i j c).toNat : Int) then pure ⟨rngItemsC i c (Builtin.Range.rangeSize i j c).toNat, none⟩ else stuck
  | _ => stuck
theorem good_rngC {K : PySem.W.Frag} {μ : Mu} {H : Hp} {lo c : Int} {n : Nat} : GoodIt K μ H (Itc lo c n) ⟨rngItemsC lo c n, none⟩ := fun μ' H' s g hs _ => by
  have hl : (rngItemsC lo c n).length = n := by unfold rngItemsC; rw [List.length_map, List.length_range]
  refine ⟨fun i d e => ?_, Nat.le_of_eq hl.symm⟩
  have hi : i < n := by rw [← hl]; exact (List.getElem?_eq_some_iff.mp e).1
  refine ⟨hi, fun x H2 y => ?_⟩
  obtain ⟨rfl, rfl⟩ := y
  unfold rngItemsC at e
  rw [List.getElem?_map, List.getElem?_range hi] at e
  cases e
  exact ⟨Grow.refl _ _, hs, .int _⟩
section
variable {X : Cx} {E : XK} {a b c tg : Expr} {pos p : Pos}
theorem si_range3 {mr : Env → M (List D)} (hg : Gl X "range") (hm : X.mg "range" = none) (ha : SA X E [a, b, c] mr)
    (hs : starEach [a, b, c] X.env = (false, eval a X.env) :: starEach [b, c] X.env := by rfl) (hpl : (backTo pos (starEach [b, c] X.env)).any (·.1) = false := by rfl) : SI X E tg (.Call (.Name "range" p) [a, b, c] [] pos) (srcA rng3D mr) := PI.imp (pi_range3 hg hm ha hs hpl) (by
  rintro σ H R ⟨μ, env, s, hv, hs, post⟩
  refine ⟨μ, env, s, hv, hs, (Post.bind post).mono fun ds s1 μ1 H1 g1 hs1 p1 vs hl => ?_⟩
  unfold rng3D at p1
  split at p1
  · rename_i i j c
    cases hl with
    | cons r hl =>
      cases hl with
      | cons r' hl =>
        cases hl with
        | cons r'' hl =>
          cases hl
          cases r
          cases r'
          cases r''
          split at p1
          · rename_i h
            exact ⟨i, j, c, _, rfl, ⟨h.1, h.2.1, h.2.2.1, h.2.2.2⟩, Post.now (a := (⟨rngItemsC i c (Builtin.Range.rangeSize i j c).toNat, none⟩ : Src)) p1 hs1 _ good_rngC⟩
          · exact (show False from p1).elim
  · exact (show False from p1).elim)
end
/-! ### sep.join(texts) -/
def joinS (a : Str) (us : List D) : M D := match dStrs us with
  | some ys => if (ys.map (·.length)).sum + ys.length * a.length ≤ 16777216 then pure (.str (Txt.join a ys)) else stuck
  | none => stuck
def joinK (a : Str) (ds : List D) : M D := match ds with
  | [.vls us] => joinS a us
  | [.tup us] => joinS a us
  | _ => stuck
def joinM (mo : Env → M D) (ma : Env → M (List D)) (env : Env) : M D := mo env >>= fun x => match x with
  | .str a => ma env >>= joinK a
  | _ => stuck
section
variable {X : Cx} {E : XK} {o e : Expr} {mo : Env → M D} {ma : Env → M (List D)} {apos cpos : Pos}
theorem joinS_ok {K : PySem.W.Frag} {μ : Mu} {H : Hp} {s : S} {a : Str} {us : List D} {xs : List V} {Q : VK} (hs : SimS K μ H s) (hl : RepL K μ H xs us) (post : Post K E μ H (joinS a us s) (okD K Q)) : ∃ ys : List Str, xs = ys.map V.str ∧ (ys.map (·.length)).sum + ys.length * a.length ≤ 16777216 ∧ Q (.str (Txt.join a ys)) H := by
  unfold joinS at post
  cases ed : dStrs us with
  | none => simp only [ed] at post; exact (show False from post).elim
  | some ys =>
    simp only [ed] at post
    split at post
    · rename_i hz
      exact ⟨ys, dStrs_rep ed hl, hz, Post.now (a := D.str (Txt.join a ys)) post hs _ (.str _)⟩
    · exact (show False from post).elim
theorem se_join (ho : SE X E o mo) (ha : SA X E [e] ma) (hbase : attributeBase o "join" X.env (eval o X.env) = eval o X.env := by rfl)
    (hline : (apos.endLine == cpos.line) = true := by rfl) (hs : starEach [e] X.env = (false, eval e X.env) :: starEach [] X.env := by rfl) : SE X E (.Call (.Attribute o "join" apos) [e] [] cpos) (joinM mo ma) :=
  PE.imp (pe_bm PySem.F.plainAttrs_str PySem.F.slot_str_join PySem.F.type_str_join mt_join ho ha hbase (by rw [hs]; rfl) hline hs rfl) (by
  rintro σ H Q ⟨μ, env, s, hv, hs, post⟩
  refine ⟨μ, env, s, hv, hs, (Post.bind post).mono fun x s1 μ1 H1 g1 hs1 p1 v hx => ?_⟩
  cases hx with
  | str a =>
    refine ⟨rfl, μ1, env, s1, hv.grow g1, hs1, (Post.bind p1).mono fun ds2 s2 μ2 H2 g2 hs2 p2 vs hl2 => ?_⟩
    unfold joinK at p2
    split at p2
    · cases hl2 with
      | cons r t =>
        cases t
        cases r with
        | vls ht hl =>
          obtain ⟨ys, rfl, hz, q⟩ := joinS_ok hs2 hl p2
          exact ⟨a, _, ys, rfl, rfl, .inl ht.sqL, hz, q⟩
    · cases hl2 with
      | cons r t =>
        cases t
        cases r with
        | tup ht hl =>
          obtain ⟨ys, rfl, hz, q⟩ := joinS_ok hs2 hl p2
          exact ⟨a, _, ys, rfl, rfl, .inr ht, hz, q⟩
    · exact (show False from p2).elim
  | _ => exact (show False from p1).elim)
end
/-! ### a handler that returns a list of truth values -/
structure SuiteL (X : Cx) (c : Value) (i : Nat) (e : Expr) (C : Str) (A : Addr) (bs : List Bool) : Prop where
  hn : ClsAt X.K C A
  he : PySem.W.exmOne X.K (.ref A) c = some true
  hi : L2.ExcC X.K A
  hp : ∀ (a : Addr) (oe : Obj) (pn : List (Addr × Obj)), Zc (.ref A) none oe → (∃ vs, oe.data = .fields vs) → ∃ te : TE, PE (X.suite a ((a, oe) :: pn)) e te ∧ ∀ (σ : L2.St) (H : Hp) (Q : VK), σ[i]? = some (some (.ref a)) → (∀ p, H p = none → Q (.ref p) (upd H p (.lst (bs.map V.bl)))) → te σ H Q
theorem rep_bls {K : PySem.W.Frag} {μ : Mu} {H : Hp} : ∀ bs : List Bool, RepL K μ H (bs.map V.bl) (bs.map D.bl)
  | [] => .nil
  | b :: bs => .cons (.bl b) (rep_bls bs)
section
variable {X : Cx} {E : XK}
theorem ss_tryL {x n : Str} {c : Value} {i : Nat} {body : List Stmt} {m : Env → M Out} {k : Str → Option D} {e : Expr} {np p5 pos pos' : Pos}
    (hs : X.stack = X.env :: X.outer) (hf : X.env.frame = some X.env.locals) (hN : X.N.Nodup) (hi : X.N[i]? = some n) (hln : X.env.kindOf n = some .local)
    (hc : Names X x c)
    (hk : ∀ C d, k C = some d → ∃ A bs, d = .vls (bs.map D.bl) ∧ SuiteL X c i e C A bs)
    (hb : ∀ pn xe E', Takes (X.tr pn xe) (fun cls d _ H => E' cls d H) → SSs (X.tr pn xe) E' body m) :
    SS X E (.Try body [.ExceptHandler (some (.Name x np)) (some n) [.Return (some e) p5] pos'] [] [] pos) (tryVM m k) := by
  let E' : WX → XK := fun W cls d H => ∀ σ : L2.St, σ.length = X.N.length → W cls d σ H
  refine PS.imp (ps_try_as (tb := fun W => TSof X.K (E' W) m) (ts := fun a cls d D σ H => ∃ C A bs, cls = .ref A ∧ d = none ∧ SuiteL X c i e C A bs ∧ σ[i]? = some (some (.ref a)) ∧ ∀ p, H p = none → D.rt (.ref p) (upd H p (.lst (bs.map V.bl)))) (Wout := fun _ _ _ _ => False) hs hf hN hi hln hc takes0 (fun W pn xe tk _ => ?_) (fun a oe cls d pn hz hv => ?_)) ?_
  · refine hb pn xe (E' W) fun u s' h => ?_
    obtain ⟨a, B, sI, pins, σ, H, cls, d, e, I, nb, up, sky, na, os, ag, w⟩ := h
    exact tk u s' ⟨a, B, sI, pins, σ, H, cls, d, e, I, nb, up, sky, na, os, ag, w σ I.len⟩
  · refine ⟨fun pins s σ H D I h => ?_⟩
    obtain ⟨C, A, bs, rfl, rfl, sv, hσ, hr⟩ := h
    obtain ⟨te, P, hte⟩ := sv.hp a oe pn hz hv
    refine (pss_one (ps_ret P)).run pins s σ H D I ?_
    exact hte σ H _ hσ hr
  · rintro Dd σ H ⟨μ, env, s, hv, hs', post⟩
    refine ⟨μ, env, s, hv, hs', ?_⟩
    unfold tryVM at post
    cases e0 : m env s with
    | stuck => rw [e0] at post; exact post
    | ok o s1 => rw [e0] at post; exact post
    | exc C s1 =>
      rw [e0] at post
      change Post X.K E μ H (match k C with | some d => R.ok (Out.rt d) s1 | none => .stuck) (okO X.K Dd) at post
      cases hkC : k C with
      | none => rw [hkC] at post; exact (show False from post).elim
      | some d =>
        rw [hkC] at post
        intro A hA μ1 H1 g1 hs1 σ1 hl
        obtain ⟨A', bs, rfl, q⟩ := hk C d hkC
        have eA := ClsAt.inj hA q.hn
        subst eA
        refine ⟨true, q.he, fun _ a _ => ?_, fun z => (by cases z)⟩
        have hlt : i < X.N.length := (List.getElem?_eq_some_iff.mp hi).1
        refine ⟨C, A, bs, rfl, rfl, q, by rw [List.getElem?_set_self (by rw [hl]; exact hlt)], fun p hp => ?_⟩
        exact post μ1 _ (g1.trans (grow_new hp)) (hs1.lay hp) (.ref p) (.vls ⟨upd_same, (hs1.new hp).1, (hs1.new hp).2⟩ (RepL.grow (grow_new hp) _ _ (rep_bls bs)))
end
def EaV (Y : Cx) (a : Addr) (i : Nat) (es : List Expr) (vs : List V) : Prop := ∃ ta : TA, PA Y es ta ∧ ∀ (σ : L2.St) (H : Hp) (Q : List V → Hp → Prop), σ[i]? = some (some (.ref a)) → Q vs H → ta σ H Q
section
variable {Y : Cx} {a : Addr} {i : Nat} {e : Expr} {es : List Expr} {pos : Pos}
theorem ea_nil : EaV Y a i [] [] := ⟨_, pa_nil, fun _ _ _ _ q => q⟩
theorem ea_cons {v : V} {vs : List V} (h : EvV Y a i e v) (t : EaV Y a i es vs) (hs : starEach (e :: es) Y.env = (false, eval e Y.env) :: starEach es Y.env := by rfl) : EaV Y a i (e :: es) (v :: vs) := by
  obtain ⟨t1, P1, k1⟩ := h
  obtain ⟨t2, P2, k2⟩ := t
  exact ⟨_, pa_cons P1 P2 hs, fun σ H Q hσ q => k1 σ H _ hσ (k2 σ H _ hσ q)⟩
theorem ev_list {bs : List Bool} (h : EaV Y a i es (bs.map V.bl)) (hz : bs.length ≤ 1000) : ∃ te : TE, PE Y (.List es pos) te ∧ ∀ (σ : L2.St) (H : Hp) (Q : VK), σ[i]? = some (some (.ref a)) → (∀ p, H p = none → Q (.ref p) (upd H p (.lst (bs.map V.bl)))) → te σ H Q := by
  obtain ⟨t, P, k⟩ := h
  exact ⟨_, pe_lst P, fun σ H Q hσ q => k σ H _ hσ ⟨by rw [List.length_map]; exact Nat.le_trans hz (by decide), q⟩⟩
end
theorem kl_nil {X : Cx} {c : Value} {i : Nat} {e : Expr} : ∀ (C : Str) (d : D), List.lookup C ([] : List (Str × D)) = some d → ∃ A bs, d = .vls (bs.map D.bl) ∧ SuiteL X c i e C A bs := fun _ _ h => (by cases h)
theorem kl_cons {X : Cx} {c : Value} {i : Nat} {e : Expr} {x : Str} {A : Addr} {bs : List Bool} {l : List (Str × D)} (h : SuiteL X c i e x A bs) (t : ∀ (C : Str) (d : D), List.lookup C l = some d → ∃ A bs, d = .vls (bs.map D.bl) ∧ SuiteL X c i e C A bs) : ∀ (C : Str) (d' : D), List.lookup C ((x, .vls (bs.map D.bl)) :: l) = some d' → ∃ A bs, d' = .vls (bs.map D.bl) ∧ SuiteL X c i e C A bs := fun C d' h0 => by
  rw [List.lookup_cons] at h0
  split at h0
  · rename_i q
    cases h0
    have := eq_of_beq q
    subst this
    exact ⟨A, bs, rfl, h⟩
  · exact t C d' h0
end PL

/-! PL40: range objects as values. -/
namespace PL
open PySem PySem.Spec PyProof.Rows L2
def rngHO (p : Addr) (i j c : Int) (t u v : Tok) : HO := .frz (rngObj i j c t u v) (.ext fun h => h.get? p = some (rngObj i j c t u v))
def tRngV (ta : TA) : TE := fun σ H Q => ta σ H fun vs H1 => ∃ (i j c : Int), vs = [.int i, .int j, .int c] ∧ c ≠ 0 ∧ c.natAbs < 1073741824 ∧ ∀ (p : Addr) (t u v : Tok), H1 p = none → Q (.ref p) (upd H1 p (rngHO p i j c t u v))
theorem pe_rngV {X : Cx} {a b c : Expr} {ta : TA} {p pos : Pos} (hg : Gl X "range") (hm : X.mg "range" = none) (ha : PA X [a, b, c] ta)
    (hs : starEach [a, b, c] X.env = (false, eval a X.env) :: starEach [b, c] X.env := by rfl) (hpl : (backTo pos (starEach [b, c] X.env)).any (·.1) = false := by rfl) :
    PE X (.Call (.Name "range" p) [a, b, c] [] pos) (tRngV ta) := by
  refine ⟨fun pins s σ H Q I h => ?_⟩
  refine Call_ (ld_blt I hg hm boot_range (PyProof.Rows.callWith_type1 (thn (ha.run pos pins s σ H _ I h) fun us s1 ⟨vs, H1, I1, r1, q1⟩ => ?_) hs hpl))
  obtain ⟨i, j, k, e, c0, c1, q⟩ := q1
  subst e
  cases r1 with
  | cons r rr =>
    cases rr with
    | cons r' rr =>
      cases rr with
      | cons r'' rr =>
        cases rr
        obtain ⟨t, rfl⟩ := r
        obtain ⟨t', rfl⟩ := r'
        obtain ⟨t'', rfl⟩ := r''
        refine call_range_3 c0 ?_ (.inl (PyProof.noPylong_small c1))
        have hf : H1 s1.heap.objs.size = none := I1.hok.fresh (Nat.le_refl _)
        refine ⟨.ref s1.heap.objs.size, upd H1 s1.heap.objs.size (rngHO s1.heap.objs.size i j k t t' t''), I1.laid (t' := s1.toks) (fun b u e => Heap.get?_push_of_some _ e) (Nat.le_refl _) ?_, rfl, q _ t t' t'' hf⟩
        have hg1 : (s1.heap.push { cls := .type "range", data := .fields #[.int i t, .int j t', .int k t''] }).get? s1.heap.objs.size = some (rngObj i j k t t' t'') := Heap.get?_push_size _ rfl
        exact ⟨hg1, hg1, ⟨_, hg1⟩, fun h1 h2 e k => k _ e⟩
def rngV (ds : List D) : M D := match ds with
  | [.int i, .int j, .int c] => if c ≠ 0 ∧ c.natAbs < 1073741824 then pure (.rng i j c) else stuck
  | _ => stuck
section
variable {X : Cx} {E : XK} {a b c : Expr} {p pos : Pos}
theorem se_rngV {mr : Env → M (List D)} (hg : Gl X "range") (hm : X.mg "range" = none) (ha : SA X E [a, b, c] mr)
    (hs : starEach [a, b, c] X.env = (false, eval a X.env) :: starEach [b, c] X.env := by rfl) (hpl : (backTo pos (starEach [b, c] X.env)).any (·.1) = false := by rfl) : SE X E (.Call (.Name "range" p) [a, b, c] [] pos) (callM rngV mr) := PE.imp (pe_rngV hg hm ha hs hpl) (by
  rintro σ H Q ⟨μ, env, s, hv, hs, post⟩
  refine ⟨μ, env, s, hv, hs, (Post.bind post).mono fun ds s1 μ1 H1 g1 hs1 p1 vs hl => ?_⟩
  unfold rngV at p1
  split at p1
  · rename_i i j c
    cases hl with
    | cons r hl =>
      cases hl with
      | cons r' hl =>
        cases hl with
        | cons r'' hl =>
          cases hl
          cases r
          cases r'
          cases r''
          split at p1
          · rename_i h
            exact ⟨i, j, c, rfl, h.1, h.2, fun p t u v hp => p1 _ _ (grow_new hp) (hs1.lay hp) (.ref p) (.rng ⟨t, u, v, upd_same⟩)⟩
          · exact (show False from p1).elim
  · exact (show False from p1).elim)
end
/-! ### its length, a walk over it -/
theorem rngObj_at {X : Cx} {pins : List (Addr × Obj)} {σ : L2.St} {H : Hp} {s : Shared} {r : Addr} {lo hi c : Int} (I : Inv X pins σ H s) (h : RngAt H r lo hi c) : ∃ t u v, IsRange s.heap r lo hi c t u v := by
  obtain ⟨t, u, v, e⟩ := h
  exact ⟨t, u, v, (I.hok _ _ e).1⟩
def iRngV (te : TE) : TI := fun σ H R => te σ H fun x H1 => ∃ (r : Addr) (lo hi c : Int) (n : Nat), x = .ref r ∧ RngAt H1 r lo hi c ∧ Builtin.Range.small lo hi c = true ∧ Builtin.Range.rangeSize lo hi c = (n : Int) ∧ R (Itc lo c n) H1
theorem pi_rngV {X : Cx} {e tg : Expr} {te : TE} (he : PE X e te) : PI X tg e (iRngV te) := by
  refine ⟨fun pins s σ H R I h => ?_⟩
  refine thn (he.run pins s σ H _ I h) fun u s1 ⟨x, H1, I1, rx, r, lo, hi, c, n, ex, hr, c2, c3, q⟩ => ?_
  subst ex
  obtain rfl : u = Value.ref r := rx
  obtain ⟨t, u, v, ir⟩ := rngObj_at I1 hr
  refine wpAny_pyIter_range ir c2 ?_
  refine pi_one (tk := s1.toks) I1 _ (turn_rangeC _ lo c n) ?_ q
  have e1 : lo + ((0 : Nat) : Int) * c = lo := by simp
  have e2 : (n : Int) - ((0 : Nat) : Int) = Builtin.Range.rangeSize lo hi c := by rw [c3]; simp
  show IsRangeIter _ _ (lo + ((0 : Nat) : Int) * c) ((n : Int) - ((0 : Nat) : Int)) c
  rw [e1, e2]
  exact Heap.get?_push_size _ rfl
def srcRV (d : D) : M Src := match d with
  | .rng lo hi c => if Builtin.Range.small lo hi c = true ∧ Builtin.Range.rangeSize lo hi c = ((Builtin.Range.rangeSize lo hi c).toNat : Int) then pure ⟨rngItemsC lo c (Builtin.Range.rangeSize lo hi c).toNat, none⟩ else stuck
  | _ => stuck
def srcRM (m : Env → M D) (env : Env) : M Src := m env >>= srcRV
section
variable {X : Cx} {E : XK} {e tg : Expr} {ma : Env → M D}
theorem si_rngV (ha : SE X E e ma) : SI X E tg e (srcRM ma) := PI.imp (pi_rngV ha) (by
  rintro σ H R ⟨μ, env, s, hv, hs, post⟩
  refine ⟨μ, env, s, hv, hs, (Post.bind (show Post X.K E μ H ((ma env >>= srcRV) s) _ from post)).mono fun x s1 μ1 H1 g1 hs1 p1 v hx => ?_⟩
  unfold srcRV at p1
  cases hx with
  | @rng a lo hi c hr =>
    simp only [] at p1
    split at p1
    · rename_i h
      exact ⟨a, lo, hi, c, _, rfl, hr, h.1, h.2, Post.now (a := (⟨rngItemsC lo c (Builtin.Range.rangeSize lo hi c).toNat, none⟩ : Src)) p1 hs1 _ good_rngC⟩
    · exact (show False from p1).elim
  | _ => exact (show False from p1).elim)
end
theorem call_lenR {X : Cx} : CallR X (.builtin "len") (fun xs H Q => ∃ (r : Addr) (lo hi c : Int) (n : Nat), xs = [V.ref r] ∧ RngAt H r lo hi c ∧ Builtin.Range.rangeSize lo hi c = (n : Int) ∧ (n : Int) < 2 ^ 63 ∧ Q (.int (n : Nat)) H) := by
  intro pins s σ H xs us Q I r h
  obtain ⟨a, lo, hi, c, n, rfl, hr, hn, hz, q⟩ := h
  obtain ⟨u, rfl, ru⟩ := vals1 r
  cases ru
  obtain ⟨t, u, v, ir⟩ := rngObj_at I hr
  exact call_len_range ir hn hz ⟨.int (n : Nat), H, I.tok _, ⟨_, rfl⟩, q⟩
def lenRD (d : D) : M D := match d with
  | .rng lo hi c => if Builtin.Range.rangeSize lo hi c = ((Builtin.Range.rangeSize lo hi c).toNat : Int) ∧ ((Builtin.Range.rangeSize lo hi c).toNat : Int) < 2 ^ 63 then pure (.int ((Builtin.Range.rangeSize lo hi c).toNat : Int)) else stuck
  | _ => stuck
theorem cr_lenR {X : Cx} {E : XK} : CallR X (.builtin "len") (RLof X.K E (fun1 lenRD)) := CallR.imp call_lenR (rl_1 fun μ s d v H Q hs r post => by
  unfold lenRD at post
  cases r with
  | @rng a lo hi c hr =>
    simp only [] at post
    split at post
    · rename_i h
      exact ⟨a, lo, hi, c, _, rfl, hr, h.1, h.2, post_int hs post⟩
    · exact (show False from post).elim
  | _ => exact (show False from post).elim)
end PL

/-! PL41: the value of an assignment that is a comprehension. -/
namespace PL
open PySem PySem.Spec PyProof.Rows L2
def setE (b : List Stmt) (k : Nat) : Expr := match b.getD k (.Pass ⟨0, 0, 0, 0⟩) with
  | .Assign _ e _ => e
  | _ => .Name "x" ⟨0, 0, 0, 0⟩
section
variable {P : Program} {w : World} {K : PySem.W.Frag} {mg : Str → Option Value} {base : Heap}
theorem fn_okXF {x qual : Str} {st : Stmt} {f : Addr} {fd : FuncData} {N ps : List Str} {k n : Nat} {m : Env → M Out} (F : Fun K x qual st f fd) (Sc : FnScope N ps (defScope st)) (hn : ps.length = n)
    (hbody : ∀ (cdv : Value) (A : Around) (outer : List PySem.Env) (s : Shared) (H : Hp) (E : XK), Room k (A.deeper (envOfC qual (defScope st) s.heap.objs.size f cdv)) → SSs (cxOf (L2.CX P w) P w K mg base N qual (defScope st) f cdv A outer s H E) E (defBody st) m) :
    FnOk P w K mg base (L2.CX P w) (k + 1) f fd ps (spM K n (fnF N.length m)) := fn_imp (fn_okX F Sc hn hbody) fun E ds s μ H Q _ hs p => Post.cut hs p
end
end PL

/-! PL42: dicts whose keys are tuples of integers, however nested. -/
namespace PL
open PySem PySem.Spec PyProof.Rows L2
/-! ### keys -/
mutual
theorem nk_hash (w w' : World) : ∀ k : NestedKey, nkOk k = true → k.hash w = k.hash w'
  | .none, _ => rfl
  | .num i, _ => rfl
  | .text x, h => by cases h
  | .tup ks, h => by
    unfold NestedKey.hash
    rw [nk_hashes w w' ks h]
theorem nk_hashes (w w' : World) : ∀ ks : List NestedKey, nkOks ks = true → NestedKey.hashes w ks = NestedKey.hashes w' ks
  | [], _ => rfl
  | k :: ks, h => by
    unfold nkOks at h
    rw [Bool.and_eq_true] at h
    unfold NestedKey.hashes
    rw [nk_hash w w' k h.1, nk_hashes w w' ks h.2]
end
mutual
/-- a datum as a key -/
def nKey : D → Option NestedKey
  | .non => some .none
  | .int i => some (.num i)
  | .tup ds => (nKeys ds).map .tup
  | _ => none
def nKeys : List D → Option (List NestedKey)
  | [] => some []
  | d :: ds => match nKey d, nKeys ds with
    | some k, some ks => some (k :: ks)
    | _, _ => none
end
mutual
theorem nKey_ok : ∀ (d : D) (k : NestedKey), nKey d = some k → nkD k = d ∧ nkOk k = true
  | .non, k, h => by cases h; exact ⟨rfl, rfl⟩
  | .int i, k, h => by cases h; exact ⟨rfl, rfl⟩
  | .tup ds, k, h => by
    unfold nKey at h
    cases e : nKeys ds with
    | none => rw [e] at h; cases h
    | some ks =>
      rw [e] at h
      cases h
      obtain ⟨e1, e2⟩ := nKeys_ok ds ks e
      exact ⟨by unfold nkD; rw [e1], e2⟩
  | .bl _, _, h => by cases h
  | .str _, _, h => by cases h
  | .flst _, _, h => by cases h
  | .vls _, _, h => by cases h
  | .ptr _, _, h => by cases h
  | .rng _ _ _, _, h => by cases h
theorem nKeys_ok : ∀ (ds : List D) (ks : List NestedKey), nKeys ds = some ks → nkDs ks = ds ∧ nkOks ks = true
  | [], ks, h => by cases h; exact ⟨rfl, rfl⟩
  | d :: ds, ks, h => by
    unfold nKeys at h
    cases e1 : nKey d with
    | none => rw [e1] at h; cases h
    | some k =>
      cases e2 : nKeys ds with
      | none => rw [e1, e2] at h; cases h
      | some js =>
        rw [e1, e2] at h
        cases h
        obtain ⟨a1, a2⟩ := nKey_ok d k e1
        obtain ⟨b1, b2⟩ := nKeys_ok ds js e2
        exact ⟨by unfold nkDs; rw [a1, b1], by unfold nkOks; rw [a2, b2]; rfl⟩
end
/-- a key of a dict: a tuple that is not too deep -/
def nKeyT (d : D) : Option NestedKey := match d with
  | .tup ds => match nKey (.tup ds) with
    | some k => if k.depth ≤ 8 then some k else none
    | none => none
  | _ => none
theorem nKeyT_ok {d : D} {k : NestedKey} (h : nKeyT d = some k) : (∃ ds, d = .tup ds) ∧ nkD k = d ∧ nkOk k = true ∧ k.depth ≤ 8 := by
  unfold nKeyT at h
  cases d with
  | tup ds =>
    simp only [] at h
    cases e : nKey (.tup ds) with
    | none => rw [e] at h; cases h
    | some k' =>
      rw [e] at h
      simp only [] at h
      split at h
      · rename_i hd
        cases h
        have := nKey_ok _ _ e
        exact ⟨⟨ds, rfl⟩, this.1, this.2, hd⟩
      · cases h
  | _ => cases h
section
variable {X : Cx} {pins : List (Addr × Obj)} {σ : L2.St} {H : Hp} {s : Shared} {μ : Mu}
mutual
theorem nested_of (I : Inv X pins σ H s) : ∀ (k : NestedKey) (v : V) (u : Value), nkOk k = true → Rep X.K μ H v (nkD k) → RelV v u → NestedIs s.heap k u
  | .none, _, _, _, h, r => by
    unfold nkD at h
    cases h
    cases r
    exact .none
  | .num i, _, _, _, h, r => by
    unfold nkD at h
    cases h
    obtain ⟨t, rfl⟩ := r
    exact .int i t
  | .text x, _, _, o, _, _ => by cases o
  | .tup ks, v, u, o, h, r => by
    unfold nkD at h
    cases h with
    | @tup a xs _ ht hl =>
      obtain rfl : u = Value.ref a := r
      obtain ⟨its, rv, ⟨ob, g1, g2, n, g3⟩, z⟩ := I.tuple ht
      exact .tup g1 g2 g3 (by simpa using nesteds_of I ks xs its o hl rv)
theorem nesteds_of (I : Inv X pins σ H s) : ∀ (ks : List NestedKey) (vs : List V) (us : List Value), nkOks ks = true → RepL X.K μ H vs (nkDs ks) → Vals vs us → NestedAll s.heap ks us
  | [], _, _, _, h, r => by
    unfold nkDs at h
    cases h
    cases r
    exact .nil
  | k :: ks, _, _, o, h, r => by
    unfold nkDs at h
    unfold nkOks at o
    rw [Bool.and_eq_true] at o
    cases h with
    | cons h1 h2 =>
      cases r with
      | cons r1 r2 => exact .cons (nested_of I k _ _ o.1 h1 r1) (nesteds_of I ks _ _ o.2 h2 r2)
end
/-! ### a dict in the heap -/
theorem entR_map {ents : List Ent} {xs : List (NestedKey × Addr × Value)} (p : Paired EntR ents xs) : ents.map (·.1) = xs.map (·.1) := by
  induction p with
  | nil => rfl
  | cons h t ih => rw [List.map_cons, List.map_cons, h.1, ih]
theorem entR_ad {ents : List Ent} {xs : List (NestedKey × Addr × Value)} (p : Paired EntR ents xs) : (ents.map fun e => e.2.1) = xs.map fun x => x.2.1 := by
  induction p with
  | nil => rfl
  | cons h t ih => rw [List.map_cons, List.map_cons, h.2.1, ih]
theorem entR_mem {ents : List Ent} {xs : List (NestedKey × Addr × Value)} (p : Paired EntR ents xs) : ∀ x ∈ xs, ∃ e ∈ ents, EntR e x := by
  induction p with
  | nil => intro x h; exact nomatch h
  | cons h t ih =>
    intro x hx
    rcases List.mem_cons.mp hx with rfl | hx
    · exact ⟨_, List.mem_cons_self, h⟩
    · obtain ⟨e, he, r⟩ := ih x hx
      exact ⟨e, List.mem_cons_of_mem _ he, r⟩
/-- the entries' keys stand -/
structure KeysOk (K : PySem.W.Frag) (μ : Mu) (H : Hp) (ents : List Ent) : Prop where
  at_ : ∀ e ∈ ents, Rep K μ H (.ref e.2.1) (nkD e.1)
  ok : ∀ e ∈ ents, nkOk e.1 = true ∧ e.1.depth ≤ 8
theorem keys_is (I : Inv X pins σ H s) {ents : List Ent} (hk : KeysOk X.K μ H ents) {xs : List (NestedKey × Addr × Value)} (p : Paired EntR ents xs) : ∀ x ∈ xs, (nestedKind X.prog X.w).is s.heap x.1 x.2.1 := fun x hx => by
  obtain ⟨e, he, r1, r2, _⟩ := entR_mem p x hx
  have h1 := nested_of I e.1 (.ref e.2.1) (.ref e.2.1) (hk.ok e he).1 (hk.at_ e he) rfl
  rw [r1, r2] at h1
  exact ⟨h1, by rw [← r1]; exact (hk.ok e he).2⟩
theorem raw_h {h : Heap} {a : Addr} {xs : List (NestedKey × Addr × Value)} (r : RawN a xs h) (ok : ∀ x ∈ xs, nkOk x.1 = true) (his : ∀ x ∈ xs, (nestedKind X.prog X.w).is h x.1 x.2.1) : h.DictOfH (nestedKind X.prog X.w) a xs := by
  obtain ⟨w0, o, es, ep, ho, hx, hd, he, hn⟩ := r
  refine ⟨o, es, ep, ho, hx, hd, ?_, his, hn⟩
  rw [he]
  refine List.map_congr_left fun x hx => ?_
  show (⟨x.1.hash w0, _, _⟩ : DictEntry) = ⟨x.1.hash X.w, _, _⟩
  rw [nk_hash w0 X.w x.1 (ok x hx)]
theorem h_raw {P : Program} {w : World} {h : Heap} {a : Addr} {xs : List (NestedKey × Addr × Value)} (r : h.DictOfH (nestedKind P w) a xs) : RawN a xs h := by
  obtain ⟨o, es, ep, ho, hx, hd, he, _, hn⟩ := r
  exact ⟨w, o, es, ep, ho, hx, hd, he, hn⟩
/-- the dict at a is told, nested or empty -/
def NRd (H : Hp) (a : Addr) (ents : List Ent) : Prop := H a = some (.ext (NDict a ents)) ∨ (∃ o, H a = some (.frz o (.ext (NDict a ents)))) ∨ (ents = [] ∧ H a = some (.dK []))
def NWr (H : Hp) (a : Addr) (ents : List Ent) : Prop := H a = some (.ext (NDict a ents)) ∨ (ents = [] ∧ H a = some (.dK []))
theorem NWr.rd {a : Addr} {ents : List Ent} (h : NWr H a ents) : NRd H a ents := h.elim .inl fun q => .inr (.inr q)
theorem nd_at (I : Inv X pins σ H s) {a : Addr} {ents : List Ent} (h : NRd H a ents) (hk : KeysOk X.K μ H ents) : ∃ xs, Paired EntR ents xs ∧ s.heap.DictOfH (nestedKind X.prog X.w) a xs ∧ (a == sysModules) = false ∧ ents.length ≤ sizeLine := by
  have nd : NDict a ents s.heap ∨ (ents = [] ∧ H a = some (.dK [])) := by
    rcases h with h | ⟨o, h⟩ | h
    · exact .inl (I.hok a _ h).1
    · exact .inl (I.hok a _ h).2.1
    · exact .inr h
  rcases nd with ⟨hs, z, xs, p, raw⟩ | ⟨rfl, h2⟩
  · have ok : ∀ x ∈ xs, nkOk x.1 = true := fun x hx => by
      obtain ⟨e, he, r1, _⟩ := entR_mem p x hx
      rw [← r1]
      exact (hk.ok e he).1
    exact ⟨xs, p, raw_h raw ok (keys_is I hk p), hs, z⟩
  · obtain ⟨z, hs, vs, kv, dd⟩ := (show ObjOk X.prog X.w H s.heap a (.dK []) from I.hok a _ h2)
    cases kv
    obtain ⟨o, es, ep, ho, hx, hd, hp⟩ := dd
    obtain ⟨es', ep', ⟨o', ho', hx', hd'⟩, hz, _⟩ := Heap.DictOf.raw (show s.heap.DictOf (mixKind X.prog X.w) a [] from ⟨o, es, ep, ho, hx, hd, hp⟩)
    have e0 : es' = #[] := Array.eq_empty_of_size_eq_zero hz
    subst e0
    exact ⟨[], .nil, ⟨o', #[], ep', ho', hx', hd', rfl, fun _ q => (nomatch q), List.nodup_nil⟩, hs, Nat.zero_le _⟩
/-- a key by value -/
structure KeyAt (X : Cx) (μ : Mu) (H : Hp) (y : V) (k : NestedKey) (b : Addr) : Prop where
  e : y = .ref b
  r : Rep X.K μ H (.ref b) (nkD k)
  o : nkOk k = true
  d : k.depth ≤ 8
theorem KeyAt.is {y : V} {k : NestedKey} {b : Addr} (h : KeyAt X μ H y k b) (I : Inv X pins σ H s) : (nestedKind X.prog X.w).is s.heap k b := ⟨nested_of I k _ _ h.o h.r rfl, h.d⟩
theorem keyAt_of {y : V} {d : D} {k : NestedKey} (hk : nKeyT d = some k) (r : Rep X.K μ H y d) : ∃ b, KeyAt X μ H y k b := by
  obtain ⟨⟨ds, rfl⟩, e, o, dp⟩ := nKeyT_ok hk
  cases r with
  | @tup a xs _ ht hl => exact ⟨a, rfl, by rw [e]; exact .tup ht hl, o, dp⟩
/-! ### look-ups -/
def atE (ents : List Ent) (k : NestedKey) : Option (Addr × V) := (ents.find? fun e => decide (e.1 = k)).map (·.2)
theorem atE_rel {ents : List Ent} {xs : List (NestedKey × Addr × Value)} (k : NestedKey) (p : Paired EntR ents xs) : (atE ents k = none ∧ atKey xs k = none) ∨ ∃ a v u, atE ents k = some (a, v) ∧ atKey xs k = some (a, u) ∧ RelV v u := by
  induction p with
  | nil => exact .inl ⟨rfl, rfl⟩
  | @cons e x es xs h t ih =>
    obtain ⟨h1, h2, h3⟩ := h
    by_cases hk : e.1 = k
    · right
      refine ⟨e.2.1, e.2.2, x.2.2, ?_, ?_, h3⟩
      · unfold atE
        rw [List.find?_cons_of_pos (by simp [hk])]
        rfl
      · unfold atKey
        rw [List.find?_cons_of_pos (by simp [← h1, hk])]
        rw [h2]
        rfl
    · have e1 : atE (e :: es) k = atE es k := by
        unfold atE
        rw [List.find?_cons_of_neg (by simp [hk])]
      have e2 : atKey (x :: xs) k = atKey xs k := by
        unfold atKey
        rw [List.find?_cons_of_neg (by simp [← h1, hk])]
      rw [e1, e2]
      exact ih
theorem nd_in {A : Around} {Q : Value → Shared → Prop} {a : Addr} {ents : List Ent} {k : NestedKey} {b : Addr} (hu : A.units + 9 < cLine) (I : Inv X pins σ H s) (h : NRd H a ents) (hk : KeysOk X.K μ H ents) (ky : (nestedKind X.prog X.w).is s.heap k b) {E : Value → Shared → Prop} (q : ∀ s', Inv X pins σ H s' → Q (.bool (atE ents k).isSome) s') : wpAny (model X.prog X.w) A (compareOp .In (.ref b) (.ref a)) Q E s := by
  obtain ⟨xs, p, dd, hs, z⟩ := nd_at I h hk
  refine wpAny_in_heap (knd := nestedKind X.prog X.w) (show A.units + 1 + 8 < cLine by omega) ky hs dd ?_
  rcases atE_rel k p with ⟨e1, e2⟩ | ⟨_, v, u, e1, e2, _⟩
  · rw [e2]
    rw [e1] at q
    exact q _ (I.tok _)
  · rw [e2]
    rw [e1] at q
    exact q _ (I.tok _)
theorem nd_notIn {A : Around} {Q : Value → Shared → Prop} {a : Addr} {ents : List Ent} {k : NestedKey} {b : Addr} (hu : A.units + 9 < cLine) (I : Inv X pins σ H s) (h : NRd H a ents) (hk : KeysOk X.K μ H ents) (ky : (nestedKind X.prog X.w).is s.heap k b) {E : Value → Shared → Prop} (q : ∀ s', Inv X pins σ H s' → Q (.bool (!(atE ents k).isSome)) s') : wpAny (model X.prog X.w) A (compareOp .NotIn (.ref b) (.ref a)) Q E s := by
  obtain ⟨xs, p, dd, hs, z⟩ := nd_at I h hk
  refine wpAny_notIn_heap (knd := nestedKind X.prog X.w) (show A.units + 1 + 8 < cLine by omega) ky hs dd ?_
  rcases atE_rel k p with ⟨e1, e2⟩ | ⟨_, v, u, e1, e2, _⟩
  · rw [e2]
    rw [e1] at q
    exact q _ (I.tok _)
  · rw [e2]
    rw [e1] at q
    exact q _ (I.tok _)
theorem nd_get {A : Around} {Q : Value → Shared → Prop} {a b c : Addr} {ents : List Ent} {k : NestedKey} {v : V} (hu : A.units + 9 < cLine) (I : Inv X pins σ H s) (h : NRd H a ents) (hk : KeysOk X.K μ H ents) (ky : (nestedKind X.prog X.w).is s.heap k b) (hv : atE ents k = some (c, v)) {E : Value → Shared → Prop} (q : ∀ u s', Inv X pins σ H s' → RelV v u → Q u s') : wpAny (model X.prog X.w) A (getItem (.ref a) (.ref b)) Q E s := by
  obtain ⟨xs, p, dd, hs, z⟩ := nd_at I h hk
  rcases atE_rel k p with ⟨e1, _⟩ | ⟨c', v', u, e1, e2, r⟩
  · rw [hv] at e1; cases e1
  · rw [hv] at e1
    cases e1
    exact wpAny_getItem_heap (knd := nestedKind X.prog X.w) (show A.units + 1 + 8 < cLine by omega) ky dd e2 (q u _ (I.tok _) r)
/-! ### stores -/
def putE (ents : List Ent) (k : NestedKey) (b : Addr) (v : V) : List Ent := if (atE ents k).isSome = true then ents.map (fun e => if e.1 = k then (e.1, e.2.1, v) else e) else ents ++ [(k, b, v)]
theorem putE_rel {ents : List Ent} {xs : List (NestedKey × Addr × Value)} {k : NestedKey} {b : Addr} {v : V} {u : Value} (p : Paired EntR ents xs) (r : RelV v u) : Paired EntR (putE ents k b v) (storedH xs k b u) := by
  have e : (atE ents k).isSome = (atKey xs k).isSome := by
    rcases atE_rel k p with ⟨e1, e2⟩ | ⟨_, _, _, e1, e2, _⟩ <;> rw [e1, e2] <;> rfl
  unfold putE storedH
  rw [e]
  split
  · clear e
    rename_i h
    clear h
    induction p with
    | nil => exact .nil
    | @cons a x es ys h t ih =>
      rw [List.map_cons, List.map_cons]
      refine .cons ?_ ih
      obtain ⟨h1, h2, h3⟩ := h
      unfold putAt
      by_cases hk : a.1 = k
      · rw [if_pos hk, if_pos (h1 ▸ hk)]
        exact ⟨h1, h2, r⟩
      · rw [if_neg hk, if_neg (h1 ▸ hk)]
        exact ⟨h1, h2, h3⟩
  · clear e
    rename_i h
    clear h
    induction p with
    | nil => exact .cons ⟨rfl, rfl, r⟩ .nil
    | cons h t ih => exact .cons h ih
theorem putE_len (ents : List Ent) (k : NestedKey) (b : Addr) (v : V) : (putE ents k b v).length ≤ ents.length + 1 := by
  unfold putE
  split
  · rw [List.length_map]; omega
  · rw [List.length_append]; exact Nat.le_refl _
theorem nd_ext {a : Addr} {ents : List Ent} {h : Heap} (q : NDict a ents h) : ObjOk X.prog X.w H h a (.ext (NDict a ents)) := by
  refine ⟨q, ?_, fun h1 h2 q1 k => ?_⟩
  · obtain ⟨_, _, xs, _, w0, o, es, ep, ho, _⟩ := q
    exact ⟨o, ho⟩
  · obtain ⟨z1, z2, xs, p, w0, o, es, ep, ho, r⟩ := q1
    exact ⟨z1, z2, xs, p, w0, o, es, ep, k o ho, r⟩
theorem nd_set {A : Around} {Q : Unit → Shared → Prop} {a b : Addr} {ents : List Ent} {k : NestedKey} {v : V} {r : Value} (hu : A.units + 9 < cLine) (I : Inv X pins σ H s) (h : NWr H a ents) (hk : KeysOk X.K μ H ents) (ky : (nestedKind X.prog X.w).is s.heap k b) (rv : RelV v r) (hl : ents.length < sizeLine) {E : Value → Shared → Prop}
    (q : ∀ s', Inv X pins σ (upd H a (.ext (NDict a (putE ents k b v)))) s' → Q () s') : wpAny (model X.prog X.w) A (setItem (.ref a) (.ref b) r) Q E s := by
  obtain ⟨xs, p, dd, hs, z⟩ := nd_at I h.rd hk
  have lx : ents.length = xs.length := Paired.length p
  refine wpAny_setItem_heap (knd := nestedKind X.prog X.w) (hsz := by omega) (show A.units + 1 + 8 < cLine by omega) ky dd fun h' dd' sb => q _ ?_
  have mu : Mut (H a) := by
    rcases h with h | ⟨_, h⟩ <;> rw [h] <;> trivial
  have he : ∃ o, h'.get? a = some o := by
    obtain ⟨o, _, _, ho, _⟩ := id dd'
    exact ⟨o, ho⟩
  exact d_write I mu sb he (nd_ext ⟨hs, by have := putE_len ents k b v; omega, _, putE_rel p rv, h_raw dd'⟩)
/-! ### by data -/
def lookN (kvs : List (NestedKey × D)) (k : NestedKey) : Option D := (kvs.find? fun e => decide (e.1 = k)).map (·.2)
def putND (kvs : List (NestedKey × D)) (k : NestedKey) (v : D) : List (NestedKey × D) := if (lookN kvs k).isSome = true then kvs.map (fun e => if e.1 = k then (e.1, v) else e) else kvs ++ [(k, v)]
theorem EntsOk.keys {K : PySem.W.Frag} {ents : List Ent} {kvs : List (NestedKey × D)} (h : EntsOk K μ H ents kvs) : KeysOk K μ H ents := ⟨h.at_, h.ok⟩
theorem lookE_rel {K : PySem.W.Frag} {k : NestedKey} : ∀ {ents : List Ent} {kvs : List (NestedKey × D)}, ents.map (·.1) = kvs.map (·.1) → RepL K μ H (ents.map (·.2.2)) (kvs.map (·.2)) → (atE ents k = none ∧ lookN kvs k = none) ∨ ∃ a v d, atE ents k = some (a, v) ∧ lookN kvs k = some d ∧ Rep K μ H v d
  | [], [], _, _ => .inl ⟨rfl, rfl⟩
  | [], q :: kvs, h, _ => by simp at h
  | e :: es, [], h, _ => by simp at h
  | e :: es, q :: kvs, h, r => by
    rw [List.map_cons, List.map_cons] at h r
    injection h with h1 h2
    cases r with
    | cons r1 r2 =>
      by_cases hk : e.1 = k
      · right
        refine ⟨e.2.1, e.2.2, q.2, ?_, ?_, r1⟩
        · unfold atE
          rw [List.find?_cons_of_pos (by simp [hk])]
          rfl
        · unfold lookN
          rw [List.find?_cons_of_pos (by simp [← h1, hk])]
          rfl
      · have e1 : atE (e :: es) k = atE es k := by
          unfold atE
          rw [List.find?_cons_of_neg (by simp [hk])]
        have e2 : lookN (q :: kvs) k = lookN kvs k := by
          unfold lookN
          rw [List.find?_cons_of_neg (by simp [← h1, hk])]
        rw [e1, e2]
        exact lookE_rel h2 r2
theorem look_some {K : PySem.W.Frag} {k : NestedKey} {ents : List Ent} {kvs : List (NestedKey × D)} (h : EntsOk K μ H ents kvs) : (atE ents k).isSome = (lookN kvs k).isSome := by
  rcases lookE_rel (k := k) h.ks h.vs with ⟨e1, e2⟩ | ⟨_, _, _, e1, e2, _⟩ <;> rw [e1, e2] <;> rfl
theorem repl_ents {K : PySem.W.Frag} {k : NestedKey} {v : V} {d : D} (rv : Rep K μ H v d) : ∀ {ents : List Ent} {kvs : List (NestedKey × D)}, ents.map (·.1) = kvs.map (·.1) → RepL K μ H (ents.map (·.2.2)) (kvs.map (·.2)) →
    (ents.map (fun e => if e.1 = k then (e.1, e.2.1, v) else e)).map (·.1) = (kvs.map fun e => if e.1 = k then (e.1, d) else e).map (·.1) ∧ RepL K μ H ((ents.map (fun e => if e.1 = k then (e.1, e.2.1, v) else e)).map (·.2.2)) ((kvs.map fun e => if e.1 = k then (e.1, d) else e).map (·.2))
  | [], [], _, _ => ⟨rfl, .nil⟩
  | [], q :: kvs, h, _ => by simp at h
  | e :: es, [], h, _ => by simp at h
  | e :: es, q :: kvs, h, r => by
    rw [List.map_cons, List.map_cons] at h r
    injection h with h1 h2
    cases r with
    | cons r1 r2 =>
      obtain ⟨i1, i2⟩ := repl_ents rv (k := k) h2 r2
      rw [List.map_cons, List.map_cons, List.map_cons, List.map_cons, List.map_cons, List.map_cons]
      by_cases hk : e.1 = k
      · rw [if_pos hk, if_pos (h1 ▸ hk)]
        exact ⟨by rw [i1, h1], .cons rv i2⟩
      · rw [if_neg hk, if_neg (h1 ▸ hk)]
        exact ⟨by rw [i1, h1], .cons r1 i2⟩
theorem put_ents {K : PySem.W.Frag} {k : NestedKey} {b : Addr} {v : V} {d : D} {ents : List Ent} {kvs : List (NestedKey × D)} (h : EntsOk K μ H ents kvs) (rk : Rep K μ H (.ref b) (nkD k)) (o : nkOk k = true ∧ k.depth ≤ 8) (rv : Rep K μ H v d) : EntsOk K μ H (putE ents k b v) (putND kvs k d) := by
  have e := look_some (k := k) h
  have mem : ∀ x ∈ putE ents k b v, (∃ y ∈ ents, x.1 = y.1 ∧ x.2.1 = y.2.1) ∨ (x.1 = k ∧ x.2.1 = b) := fun x hx => by
    unfold putE at hx
    split at hx
    · obtain ⟨y, hy, rfl⟩ := List.mem_map.mp hx
      left
      refine ⟨y, hy, ?_⟩
      split <;> exact ⟨rfl, rfl⟩
    · rcases List.mem_append.mp hx with hx | hx
      · exact .inl ⟨x, hx, rfl, rfl⟩
      · rw [List.mem_singleton.mp hx]
        exact .inr ⟨rfl, rfl⟩
  have kv : (putE ents k b v).map (·.1) = (putND kvs k d).map (·.1) ∧ RepL K μ H ((putE ents k b v).map (·.2.2)) ((putND kvs k d).map (·.2)) := by
    unfold putE putND
    rw [e]
    split
    · exact repl_ents rv h.ks h.vs
    · rw [List.map_append, List.map_append, List.map_append, List.map_append, h.ks]
      exact ⟨rfl, RepL.append h.vs (.cons rv .nil)⟩
  refine ⟨kv.1, kv.2, fun x hx => ?_, fun x hx => ?_⟩
  · rcases mem x hx with ⟨y, hy, e1, e2⟩ | ⟨e1, e2⟩
    · rw [e1, e2]; exact h.at_ y hy
    · rw [e1, e2]; exact rk
  · rcases mem x hx with ⟨y, hy, e1, e2⟩ | ⟨e1, e2⟩
    · rw [e1]; exact h.ok y hy
    · rw [e1]; exact o
theorem EntsOk.nil {K : PySem.W.Frag} : EntsOk K μ H [] [] := ⟨rfl, .nil, fun _ h => (nomatch h), fun _ h => (nomatch h)⟩
theorem EntsOk.len {K : PySem.W.Frag} {ents : List Ent} {kvs : List (NestedKey × D)} (h : EntsOk K μ H ents kvs) : ents.length = kvs.length := by
  have := congrArg List.length h.ks
  rw [List.length_map, List.length_map] at this
  exact this
/-- the entries of a cell: nested keys, or none -/
def entsC : Option Cell → Option (List (NestedKey × D))
  | some (.dN kvs) => some kvs
  | some (.fN kvs) => some kvs
  | some (.dK []) => some []
  | _ => none
def entsW : Option Cell → Option (List (NestedKey × D))
  | some (.dN kvs) => some kvs
  | some (.dK []) => some []
  | _ => none
theorem cell_nd {K : PySem.W.Frag} {st : S} {n : Nat} {a : Addr} {kvs : List (NestedKey × D)} (hs : SimS K μ H st) (ha : μ.c[n]? = some a) (e : entsC st[n]? = some kvs) : ∃ ents, NRd H a ents ∧ EntsOk K μ H ents kvs := by
  cases ec : st[n]? with
  | none => rw [ec] at e; cases e
  | some c =>
    rw [ec] at e
    obtain ⟨b, hb, hc⟩ := hs.cell n _ ec
    rw [ha] at hb
    cases hb
    cases c with
    | dN k =>
      cases e
      obtain ⟨ents, h1, h2⟩ := hc
      exact ⟨ents, .inl h1, h2⟩
    | fN k =>
      cases e
      obtain ⟨o, ents, h1, h2⟩ := hc
      exact ⟨ents, .inr (.inl ⟨o, h1⟩), h2⟩
    | dK k =>
      cases k with
      | nil =>
        cases e
        obtain ⟨xs, h1, h2⟩ := hc
        have : xs = [] := by
          have := congrArg List.length h2.1
          simpa using this
        subst this
        exact ⟨[], .inr (.inr ⟨rfl, h1⟩), EntsOk.nil⟩
      | cons _ _ => cases e
    | _ => cases e
theorem cell_ndW {K : PySem.W.Frag} {st : S} {n : Nat} {a : Addr} {kvs : List (NestedKey × D)} (hs : SimS K μ H st) (ha : μ.c[n]? = some a) (e : entsW st[n]? = some kvs) : ∃ ents, NWr H a ents ∧ EntsOk K μ H ents kvs := by
  cases ec : st[n]? with
  | none => rw [ec] at e; cases e
  | some c =>
    rw [ec] at e
    obtain ⟨b, hb, hc⟩ := hs.cell n _ ec
    rw [ha] at hb
    cases hb
    cases c with
    | dN k =>
      cases e
      obtain ⟨ents, h1, h2⟩ := hc
      exact ⟨ents, .inl h1, h2⟩
    | dK k =>
      cases k with
      | nil =>
        cases e
        obtain ⟨xs, h1, h2⟩ := hc
        have : xs = [] := by
          have := congrArg List.length h2.1
          simpa using this
        subst this
        exact ⟨[], .inr ⟨rfl, h1⟩, EntsOk.nil⟩
      | cons _ _ => cases e
    | _ => cases e
end
/-! ### rules: look-ups -/
def ixN (x y : D) : M D := fun s => match x with
  | .ptr n => (match entsC s[n]? with
    | some kvs => (match nKeyT y with
      | some k => (match lookN kvs k with
        | some d => .ok d s
        | none => .stuck)
      | none => .stuck)
    | none => .stuck)
  | _ => .stuck
def inN (y x : D) : M D := fun s => match x with
  | .ptr n => (match entsC s[n]? with
    | some kvs => (match nKeyT y with
      | some k => .ok (.bl (lookN kvs k).isSome) s
      | none => .stuck)
    | none => .stuck)
  | _ => .stuck
def ninN (y x : D) : M D := notD inN y x
section
variable {X : Cx} {E : XK}
theorem ix_nest (hu : X.A.units + 9 < cLine) : IxR X (R2of X.K E ixN) := by
  intro value slice pins s σ H x y v u Q I rx ry h hs
  obtain ⟨μ, st, dx, dy, hs1, hx, hy, post⟩ := h
  unfold ixN at post
  cases hx with
  | @ptr a n hn =>
    simp only [] at post
    cases ec : entsC st[n]? with
    | none => simp only [ec] at post; exact (show False from post).elim
    | some kvs =>
      simp only [ec] at post
      cases ek : nKeyT dy with
      | none => simp only [ek] at post; exact (show False from post).elim
      | some k =>
        simp only [ek] at post
        cases el : lookN kvs k with
        | none => simp only [el] at post; exact (show False from post).elim
        | some d =>
          simp only [el] at post
          obtain ⟨ents, h1, h2⟩ := cell_nd hs1 hn ec
          obtain ⟨b, kb⟩ := keyAt_of ek hy
          have ky := kb.is I
          have eb := kb.e
          subst eb
          obtain rfl : v = Value.ref a := rx
          obtain rfl : u = Value.ref b := ry
          rcases lookE_rel (k := k) h2.ks h2.vs with ⟨_, e2⟩ | ⟨c, vv, d', e1, e2, rr⟩
          · rw [el] at e2; cases e2
          · rw [el] at e2
            cases e2
            obtain ⟨xs, _, dd, _, _⟩ := nd_at I h1 h2.keys
            exact tail_any dd.typeIs PySem.F.slot_dict_getitem.lookup (nd_get hu I h1 h2.keys ky e1 fun u' s' I' ru => ⟨vv, H, I', ru, post_val hs1 post rr⟩) hs
  | _ => exact (show False from post).elim
theorem op_inN (hu : X.A.units + 9 < cLine) : OpR X (compareOp .In) (R2of X.K E inN) := by
  intro pins s σ H x y v u Q I rx ry h
  obtain ⟨μ, st, dx, dy, hs1, hx, hy, post⟩ := h
  unfold inN at post
  cases hy with
  | @ptr a n hn =>
    simp only [] at post
    cases ec : entsC st[n]? with
    | none => simp only [ec] at post; exact (show False from post).elim
    | some kvs =>
      simp only [ec] at post
      cases ek : nKeyT dx with
      | none => simp only [ek] at post; exact (show False from post).elim
      | some k =>
        simp only [ek] at post
        obtain ⟨ents, h1, h2⟩ := cell_nd hs1 hn ec
        obtain ⟨b, kb⟩ := keyAt_of ek hx
        have ky := kb.is I
        have eb := kb.e
        subst eb
        obtain rfl : v = Value.ref b := rx
        obtain rfl : u = Value.ref a := ry
        refine nd_in hu I h1 h2.keys ky fun s' I' => ⟨.bl _, H, I', rfl, ?_⟩
        rw [look_some h2]
        exact post_bl hs1 post
  | _ => exact (show False from post).elim
theorem op_ninN (hu : X.A.units + 9 < cLine) : OpR X (compareOp .NotIn) (R2of X.K E ninN) := by
  intro pins s σ H x y v u Q I rx ry h
  obtain ⟨μ, st, dx, dy, hs1, hx, hy, post⟩ := h
  unfold ninN notD at post
  rw [bind_run] at post
  unfold inN at post
  cases hy with
  | @ptr a n hn =>
    simp only [] at post
    cases ec : entsC st[n]? with
    | none => simp only [ec] at post; exact (show False from post).elim
    | some kvs =>
      simp only [ec] at post
      cases ek : nKeyT dx with
      | none => simp only [ek] at post; exact (show False from post).elim
      | some k =>
        simp only [ek] at post
        obtain ⟨ents, h1, h2⟩ := cell_nd hs1 hn ec
        obtain ⟨b, kb⟩ := keyAt_of ek hx
        have ky := kb.is I
        have eb := kb.e
        subst eb
        obtain rfl : v = Value.ref b := rx
        obtain rfl : u = Value.ref a := ry
        refine nd_notIn hu I h1 h2.keys ky fun s' I' => ⟨.bl _, H, I', rfl, ?_⟩
        rw [look_some h2]
        exact post_bl hs1 post
  | _ => exact (show False from post).elim
section
variable {a b : Expr} {ma mb : Env → M D} {pos : Pos}
theorem se_ixN (hu : X.A.units + 9 < cLine) (ha : SE X E a ma) (hb : SE X E b mb) (h : PlainIx b) : SE X E (.Subscript a b pos) (binM ixN ma mb) := PE.imp (pe_ix (ix_nest hu) ha hb h) (te_bin fun _ _ _ _ h => h)
end
/-! ### stores -/
def setN (o i v : D) : M Unit := fun s => match o with
  | .ptr n => (match entsW s[n]? with
    | some kvs => (match nKeyT i with
      | some k => if kvs.length < 100000 then .ok () (s.set n (.dN (putND kvs k v))) else .stuck
      | none => .stuck)
    | none => .stuck)
  | _ => .stuck
theorem put_cellN {K : PySem.W.Frag} {μ : Mu} {H : Hp} {s : S} {n : Nat} {a : Addr} {ents ents' : List Ent} {kvs : List (NestedKey × D)} (hs : SimS K μ H s) (hn : μ.c[n]? = some a) (h : NWr H a ents) (l : EntsOk K μ H ents' kvs) :
    Grow μ H μ (upd H a (.ext (NDict a ents'))) ∧ SimS K μ (upd H a (.ext (NDict a ents'))) (s.set n (.dN kvs)) := by
  have hm : Mut (H a) := by rcases h with h | ⟨_, h⟩ <;> rw [h] <;> trivial
  have g := grow_put (μ := μ) (H := H) (a := a) (o := .ext (NDict a ents')) hm (List.mem_of_getElem? hn)
  exact ⟨g, hs.put hn hm ⟨_, upd_same, l.grow g⟩⟩
def rSetN (o i v : V) (H : Hp) (Q : Hp → Prop) : Prop := ∃ (μ : Mu) (K : PySem.W.Frag) (a b : Addr) (ents : List Ent) (k : NestedKey), o = .ref a ∧ NWr H a ents ∧ True ∧ Q (upd H a (.ext (NDict a (putE ents k b v))))
theorem set_nest (hu : X.A.units + 9 < cLine) : PSet X (fun o i v H Q => ∃ (μ : Mu) (a b : Addr) (ents : List Ent) (k : NestedKey), o = .ref a ∧ NWr H a ents ∧ KeysOk X.K μ H ents ∧ KeyAt X μ H i k b ∧ ents.length < sizeLine ∧ Q (upd H a (.ext (NDict a (putE ents k b v))))) := by
  intro pins s σ H o i v ov iv u Q I ro ri rv h
  obtain ⟨μ, a, b, ents, k, rfl, hw, hk, kb, hl, q⟩ := h
  have ky := kb.is I
  have eb := kb.e
  subst eb
  obtain rfl : ov = Value.ref a := ro
  obtain rfl : iv = Value.ref b := ri
  exact nd_set hu I hw hk ky rv hl fun s' I' => ⟨_, I', q⟩
theorem setN_ok {μ : Mu} {H : Hp} {s : S} {o i v : D} {x y z : V} {q : Unit → S → Mu → Hp → Prop} (hs : SimS X.K μ H s) (ro : Rep X.K μ H x o) (ri : Rep X.K μ H y i) (rv : Rep X.K μ H z v) (post : Post X.K E μ H (setN o i v s) q) :
    ∃ (a b : Addr) (ents : List Ent) (k : NestedKey), x = .ref a ∧ NWr H a ents ∧ KeysOk X.K μ H ents ∧ KeyAt X μ H y k b ∧ ents.length < sizeLine ∧ ∃ s', Grow μ H μ (upd H a (.ext (NDict a (putE ents k b z)))) ∧ SimS X.K μ (upd H a (.ext (NDict a (putE ents k b z)))) s' ∧ q () s' μ (upd H a (.ext (NDict a (putE ents k b z)))) := by
  unfold setN at post
  cases ro with
  | @ptr a n hn =>
    simp only [] at post
    cases ec : entsW s[n]? with
    | none => simp only [ec] at post; exact (show False from post).elim
    | some kvs =>
      simp only [ec] at post
      cases ek : nKeyT i with
      | none => simp only [ek] at post; exact (show False from post).elim
      | some k =>
        simp only [ek] at post
        split at post
        · rename_i hz
          obtain ⟨ents, h1, h2⟩ := cell_ndW hs hn ec
          obtain ⟨b, kb⟩ := keyAt_of ek ri
          obtain ⟨g, hs'⟩ := put_cellN hs hn h1 (put_ents (k := k) (b := b) h2 kb.r ⟨kb.o, kb.d⟩ rv)
          exact ⟨a, b, ents, k, rfl, h1, h2.keys, kb, line_of (by rw [h2.len]; exact hz), _, g, hs', post _ _ g hs'⟩
        · exact (show False from post).elim
  | _ => exact (show False from post).elim
theorem sg_subN {a b : Expr} {ma mb : Env → M D} {pos : Pos} (hu : X.A.units + 9 < cLine) (ha : SE X E a ma) (hb : SE X E b mb) (hh : ∀ v, assign (.Subscript a b pos) X.env v = (do
      let ov ← holding [v] (eval a X.env)
      let iv ← holding [v, ov] (eval b X.env)
      standAt pos
      holding [v, ov, iv] (setItem ov iv v)
      release [v, ov, iv] []) := by intro _; rfl) : SG X E (.Subscript a b pos) (gSubM ma mb setN) := PG.imp (pg_sub ha hb (set_nest hu) hh) (by
  rintro v σ H Q ⟨μ, env, s, d, hv, hs, r, post⟩
  refine ⟨μ, env, s, hv, hs, (Post.bind post).mono fun o s1 μ1 H1 g1 hs1 p1 x hx => ?_⟩
  refine ⟨μ1, env, s1, hv.grow g1, hs1, (Post.bind p1).mono fun i s2 μ2 H2 g2 hs2 p2 y hy => ?_⟩
  obtain ⟨a, b, ents, k, e1, h1, h2, h3, h4, s3, g3, hs3, q3⟩ := setN_ok hs2 (Rep.grow g2 o x hx) hy (Rep.grow (g1.trans g2) d v r) (Post.bind p2)
  exact ⟨μ2, a, b, ents, k, e1, h1, h2, h3, h4, Post.now (a := env) q3 hs3 _ (((hv.grow g1).grow g2).grow g3)⟩)
/-! ### list(d), len(d) -/
def keysN (kvs : List (NestedKey × D)) : List D := kvs.map fun e => nkD e.1
theorem keysN_rep {K : PySem.W.Frag} {μ : Mu} {H : Hp} : ∀ {ents : List Ent} {kvs : List (NestedKey × D)}, ents.map (·.1) = kvs.map (·.1) → (∀ e ∈ ents, Rep K μ H (.ref e.2.1) (nkD e.1)) → RepL K μ H (ents.map fun e => V.ref e.2.1) (keysN kvs)
  | [], [], _, _ => .nil
  | [], q :: kvs, h, _ => by simp at h
  | e :: es, [], h, _ => by simp at h
  | e :: es, q :: kvs, h, r => by
    rw [List.map_cons, List.map_cons] at h
    injection h with h1 h2
    refine .cons ?_ (keysN_rep h2 fun x hx => r x (List.mem_cons_of_mem _ hx))
    show Rep K μ H (.ref e.2.1) (nkD q.1)
    rw [← show e.1 = q.1 from h1]
    exact r e List.mem_cons_self
def listN (x : D) : M D := match x with
  | .ptr n => fun s => match entsC s[n]? with
    | some kvs => .ok (.vls (keysN kvs)) s
    | none => .stuck
  | _ => stuck
def lenN (x : D) : M D := match x with
  | .ptr n => fun s => match entsC s[n]? with
    | some kvs => if kvs.length ≤ 100000 then .ok (.int kvs.length) s else .stuck
    | none => .stuck
  | _ => stuck
theorem call_listN (hc : X.calm = true) : CallR X (.type "list") (fun xs H Q => ∃ (μ : Mu) (d : Addr) (ents : List Ent), xs = [V.ref d] ∧ NRd H d ents ∧ KeysOk X.K μ H ents ∧ ∀ p, H p = none → Q (.ref p) (upd H p (.lst (ents.map fun e => V.ref e.2.1)))) := by
  intro pins s σ H xs us Q I r h
  obtain ⟨μ, d, ents, rfl, hd, hk, q⟩ := h
  obtain ⟨u, rfl, rx⟩ := r.one
  cases rx
  obtain ⟨ks, pr, ⟨o, es, ep, ho, hx, hdt, he, _, hn⟩, hs, z⟩ := nd_at I hd hk
  have l1 : es.size = ks.length := size_of_entries he
  have l2 : ents.length = ks.length := Paired.length pr
  refine PySem.W.kdl_call (kdl_raw hs hx hdt) (I.ok.hd hc) ho (by omega) fun h' tk acc' c' kp e it => ?_
  have ea : acc'.toList = ks.map fun x => Value.ref x.2.1 := by
    have hl : acc'.toList.length = ks.length := by rw [Array.length_toList, it.1]; exact l1
    apply List.ext_getElem?
    intro j
    rw [List.getElem?_map]
    cases hj : acc'.toList[j]? with
    | none =>
      have h1 := List.getElem?_eq_none_iff.mp hj
      rw [List.getElem?_eq_none (by omega)]
      all_goals rfl
    | some v =>
      obtain ⟨en, hen, hv⟩ := it.2 j v (by rw [← Array.getElem?_toList]; exact hj)
      have qe := entry_at he j
      rw [hen] at qe
      cases hb : ks[j]? with
      | none =>
        rw [hb] at qe
        exact nomatch (show some en = none from qe)
      | some b =>
        rw [hb] at qe
        have e2 : en = entryOfKey (nestedKind X.prog X.w) b := Option.some.inj qe
        rw [hv, e2]
        all_goals rfl
  have er : (ents.map fun e => e.2.1) = ks.map fun x => x.2.1 := by
    exact entR_ad pr
  have eb : acc'.toList = (ks.map fun x => x.2.1).map Value.ref := by rw [ea, List.map_map]; all_goals rfl
  have ev : (ents.map fun e => V.ref e.2.1) = (ks.map fun x => x.2.1).map V.ref := by rw [← er, List.map_map]; rfl
  have rv : Vals (ents.map fun e => V.ref e.2.1) acc'.toList := by rw [eb, ev]; exact L2.vals_refs _
  refine ⟨.ref s.heap.objs.size, _, I.laid (t' := tk) (o := .lst (ents.map fun e => V.ref e.2.1)) kp (Nat.le_refl _) ?_, rfl, q _ (I.hok.fresh (Nat.le_refl _))⟩
  exact ⟨by rw [List.length_map]; exact z, acc'.toList, c', rv, by rw [Array.toArray_toList]; exact e⟩
theorem cr_listN (hc : X.calm = true) : CallR X (.type "list") (RLof X.K E (fun1 listN)) := CallR.imp (call_listN hc) (rl_1 fun μ s d v H Q hs r post => by
  unfold listN at post
  cases r with
  | @ptr a n hn =>
    simp only [] at post
    cases ec : entsC s[n]? with
    | none => simp only [ec] at post; exact (show False from post).elim
    | some kvs =>
      simp only [ec] at post
      obtain ⟨ents, h1, h2⟩ := cell_nd hs hn ec
      exact ⟨μ, a, ents, rfl, h1, h2.keys, fun p hp => post_vls hs (keysN_rep h2.ks h2.at_) post p hp⟩
  | _ => exact (show False from post).elim)
theorem call_lenN : CallR X (.builtin "len") (fun xs H Q => ∃ (μ : Mu) (d : Addr) (ents : List Ent), xs = [V.ref d] ∧ NRd H d ents ∧ KeysOk X.K μ H ents ∧ Q (.int ents.length) H) := by
  intro pins s σ H xs us Q I r h
  obtain ⟨μ, d, ents, rfl, hd, hk, q⟩ := h
  obtain ⟨u, rfl, rx⟩ := r.one
  cases rx
  obtain ⟨ks, pr, dd, hs, z⟩ := nd_at I hd hk
  have hm : s.heap.DictKeyed (nestedKind X.prog X.w) d (pairsH ks) := ⟨ks, dd, rfl⟩
  have l2 : ents.length = ks.length := Paired.length pr
  have l3 : (pairsH ks).length = ents.length := by rw [pairsH_length]; omega
  have hn := line63
  exact PyProof.Rows.call_len_slot (n := (pairsH ks).length) hm.typeIs PySem.F.slot_dict_len (fun Q' hq => len_keyed hs hm hq) (by omega) (by rw [sizeLine_eq] at z; omega) ⟨.int ents.length, H, I.tok _, ⟨_, by rw [l3]⟩, q⟩
theorem cr_lenN : CallR X (.builtin "len") (RLof X.K E (fun1 lenN)) := CallR.imp call_lenN (rl_1 fun μ s d v H Q hs r post => by
  unfold lenN at post
  cases r with
  | @ptr a n hn =>
    simp only [] at post
    cases ec : entsC s[n]? with
    | none => simp only [ec] at post; exact (show False from post).elim
    | some kvs =>
      simp only [ec] at post
      split at post
      · obtain ⟨ents, h1, h2⟩ := cell_nd hs hn ec
        exact ⟨μ, a, ents, rfl, h1, h2.keys, by rw [h2.len]; exact post_int hs post⟩
      · exact (show False from post).elim
  | _ => exact (show False from post).elim)
end
end PL

/-! PL43: dicts with nested keys: walks, displays. -/
namespace PL
open PySem PySem.Spec PyProof.Rows L2
/-! ### walks: the dict is frozen for good -/
def Itkn (d : Addr) (o : Obj) (ents : List Ent) : It :=
  ⟨fun i H => H d = some (.frz o (.ext (NDict d ents))) ∧ i < ents.length, fun i H x H' => H' = H ∧ ∃ e, ents[i]? = some e ∧ x = .ref e.2.1, fun i H => H d = some (.frz o (.ext (NDict d ents))) ∧ ents.length ≤ i⟩
section
variable {P : Program} {w : World} {K : PySem.W.Frag} {tg : Expr} {d : Addr} {o : Obj} {es : Array DictEntry} {ep : Nat}
theorem ndict_raw {ents : List Ent} {h : Heap} (q : NDict d ents h) (ho : h.get? d = some o) : (d == sysModules) = false ∧ o.ExactDict ∧ ∃ (es : Array DictEntry) (ep : Nat), o.data = .dict es ep ∧ es.size = ents.length ∧ ∀ (i : Nat) (e : Ent), ents[i]? = some e → ∃ en : DictEntry, es[i]? = some en ∧ en.key = .ref e.2.1 := by
  obtain ⟨hs, z, xs, p, w0, o', es, ep, ho', hx, hd, he, hn⟩ := q
  rw [ho] at ho'
  cases ho'
  have l1 : es.size = xs.length := by rw [← Array.length_toList, he, List.length_map]
  have l2 : ents.length = xs.length := Paired.length p
  refine ⟨hs, hx, es, ep, hd, by omega, fun i e q => ?_⟩
  obtain ⟨x, hx2, h1, h2, h3⟩ := paired_get p q
  refine ⟨⟨x.1.hash w0, .ref x.2.1, x.2.2⟩, ?_, by rw [h2]⟩
  rw [← Array.getElem?_toList, he, List.getElem?_map, hx2]
  rfl
theorem frzN {X : Cx} {pins : List (Addr × Obj)} {σ : L2.St} {H : Hp} {s : Shared} {ents : List Ent} (I : Inv X pins σ H s) (h : H d = some (.frz o (.ext (NDict d ents)))) :
    s.heap.get? d = some o ∧ (d == sysModules) = false ∧ o.ExactDict ∧ ∃ (es : Array DictEntry) (ep : Nat), o.data = .dict es ep ∧ es.size = ents.length ∧ ∀ (i : Nat) (e : Ent), ents[i]? = some e → ∃ en : DictEntry, es[i]? = some en ∧ en.key = .ref e.2.1 := by
  obtain ⟨ho, q, _⟩ := I.hok d _ h
  exact ⟨ho, ndict_raw q ho⟩
theorem turn_keysN {ents : List Ent} (it : Addr) (hod : o.data = .dict es ep) : Turn P w K tg (Itkn d o ents) [it] it (fun i h => h.IsKeyIter it d i ents.length ep) where
  mem := by simp
  obj := fun i h st b hb => by
    have e : b = it := by simpa using hb
    subst e
    obtain ⟨oi, e, c, dd⟩ := st
    exact ⟨oi, e, fun v z => by rw [dd] at z; cases z⟩
  keep := fun i h h' st k => st.at fun oi e => k it (by simp) oi e
  item := by
    intro X hP hw hK hc i pins s σ H E I hf st hg
    subst hP hw hK
    obtain ⟨hd, hi⟩ := hg
    obtain ⟨f0, f1, f2, f3, f4, f5⟩ := hf it (by simp)
    obtain ⟨hgd, hs, hx, es', ep', hdt, hsz, ent⟩ := frzN I hd
    obtain ⟨rfl, rfl⟩ := dict_ep hod hdt
    obtain ⟨e0, hkv⟩ : ∃ p, ents[i]? = some p := ⟨ents[i], List.getElem?_eq_getElem hi⟩
    obtain ⟨en, hen, hkey⟩ := ent i e0 hkv
    refine next_key_item st hgd hdt hsz hen fun h' st' sb => ?_
    have I1 : Inv X pins σ H { s with heap := h' } := I.turned (t' := s.toks) (fun b ob hb e => (sb.2 b hb).trans e) f0 f1 f3 f4 f5
    obtain ⟨oi, e, c, dd⟩ := id st'
    exact ⟨en.key, rfl, go_of (s := { s with heap := h' }) e c dd (by decide) ⟨.ref e0.2.1, H, I1, hkey, ⟨rfl, e0, hkv, rfl⟩, st', fun b hb => (hf b hb).1⟩⟩
  done := by
    intro X hP hw hK hc i pins s σ H E I hf st hg
    subst hP hw hK
    obtain ⟨hd, hi⟩ := hg
    obtain ⟨f0, f1, f2, f3, f4, f5⟩ := hf it (by simp)
    obtain ⟨hgd, hs, hx, es', ep', hdt, hsz, ent⟩ := frzN I hd
    obtain ⟨rfl, rfl⟩ := dict_ep hod hdt
    exact next_key_end (I.ok.hd hc) st hgd hdt hsz hi fun h' eb => ⟨rfl, I.turned (t' := s.toks) (fun b ob hb e => eb b ob hb e) f0 f1 f3 f4 f5⟩
  self := fun A i s Q E st h => by
    refine wpAny_pyIter_slot st.typeIs F.slot_dict_keyiterator_iter (wpAny_call_entry F.slot_dict_keyiterator_iter st.typeIs F.entry_dict_keyiterator_iter ?_ (F.args_dict_keyiterator_iter_1 _))
    show wpAny _ _ (ret (.ref it)) _ _ s
    exact wpAny_pure ⟨_, rfl, "dict_keyiterator", _, st.typeIs, F.slot_dict_keyiterator_next.lookup, h⟩
end
def iKeysN (td : TE) : TI := fun σ H R => td σ H fun x H1 => ∃ d, x = .ref d ∧ ((∃ ents, H1 d = some (.ext (NDict d ents)) ∧ ∀ od, R (Itkn d od ents) (upd H1 d (.frz od (.ext (NDict d ents))))) ∨ (H1 d = some (.dK []) ∧ ∀ od, R (Itk d od []) (upd H1 d (.frz od (.dK [])))) ∨ ∃ od ents, H1 d = some (.frz od (.ext (NDict d ents))) ∧ R (Itkn d od ents) H1)
theorem pi_keysN {X : Cx} {tg e : Expr} {td : TE} (he : PE X e td) : PI X tg e (iKeysN td) := by
  refine ⟨fun pins s σ H R I h => ?_⟩
  refine thn (he.run pins s σ H _ I h) fun u s1 ⟨x, H1, I1, rx, d, ex, q⟩ => ?_
  subst ex
  obtain rfl : u = Value.ref d := rx
  rcases q with ⟨ents, hd, q⟩ | ⟨hd, q⟩ | ⟨od, ents, hd, q⟩
  · obtain ⟨od, I2⟩ := I1.lock hd trivial
    obtain ⟨hgd, hs, hx, es, ep, hdt, hsz, ent⟩ := frzN I2 upd_same
    refine iter_keys hs hgd hx hdt (pi_one (tk := s1.toks) I2 _ (turn_keysN _ hdt) ⟨_, Heap.get?_push_size _ rfl, rfl, ?_⟩ (q od))
    rw [hsz] <;> rfl
  · obtain ⟨od, I2⟩ := I1.lock hd trivial
    obtain ⟨hs, hgd, hx, es, ep, vs, hdt, hsz, kv, hm⟩ := I2.frzK upd_same
    refine iter_keys hs hgd hx hdt (pi_one (tk := s1.toks) I2 _ (turn_keys (kvs := []) _ hdt) ⟨_, Heap.get?_push_size _ rfl, rfl, ?_⟩ (q od))
    rw [hsz] <;> rfl
  · obtain ⟨hgd, hs, hx, es, ep, hdt, hsz, ent⟩ := frzN I1 hd
    refine iter_keys hs hgd hx hdt (pi_one (tk := s1.toks) I1 _ (turn_keysN _ hdt) ⟨_, Heap.get?_push_size _ rfl, rfl, ?_⟩ q)
    rw [hsz] <;> rfl
def srcN (d : D) : M Src := match d with
  | .ptr n => fun s => match s[n]? with
    | some (.dN kvs) => .ok ⟨keysN kvs, none⟩ (s.set n (.fN kvs))
    | some (.fN kvs) => .ok ⟨keysN kvs, none⟩ s
    | some (.dK []) => .ok ⟨[], none⟩ (s.set n (.fK []))
    | _ => .stuck
  | _ => stuck
def srcNM (m : Env → M D) (env : Env) : M Src := m env >>= srcN
theorem grow_frz {μ : Mu} {H : Hp} {a : Addr} {o : Obj} {u : HO} (h : H a = some u) (hm : Mut (some u)) (ha : a ∈ μ.c) : Grow μ H μ (upd H a (.frz o u)) := grow_put (by rw [h]; exact hm) ha
theorem good_keysN {K : PySem.W.Frag} {μ : Mu} {H : Hp} {a : Addr} {o : Obj} {ents : List Ent} {kvs : List (NestedKey × D)} (h : H a = some (.frz o (.ext (NDict a ents)))) (r : EntsOk K μ H ents kvs) : GoodIt K μ H (Itkn a o ents) ⟨keysN kvs, none⟩ := fun μ' H' s g hs _ => by
  have h' := g.frz _ _ _ h
  have hl := r.len
  have rl := RepL.growW g _ _ (keysN_rep r.ks r.at_)
  have kl : (keysN kvs).length = kvs.length := List.length_map ..
  refine ⟨fun i d e => ?_, h', by rw [kl, hl]; exact Nat.le_refl _⟩
  have hi : i < ents.length := by rw [hl, ← kl]; exact (List.getElem?_eq_some_iff.mp e).1
  refine ⟨⟨h', hi⟩, fun x H2 y => ?_⟩
  obtain ⟨rfl, e0, e1, rfl⟩ := y
  obtain ⟨v, hv, rv⟩ := rl.get e
  rw [List.getElem?_map, e1] at hv
  cases hv
  exact ⟨Grow.refl _ _, hs, rv⟩
theorem good_none {K : PySem.W.Frag} {μ : Mu} {H : Hp} {a : Addr} {o : Obj} (h : H a = some (.frz o (.dK []))) : GoodIt K μ H (Itk a o []) ⟨[], none⟩ := fun μ' H' s g hs _ => ⟨fun i d e => by simp at e, g.frz _ _ _ h, Nat.le_refl _⟩
section
variable {X : Cx} {E : XK} {e tg : Expr} {ma : Env → M D}
theorem si_keysN (ha : SE X E e ma) : SI X E tg e (srcNM ma) := PI.imp (pi_keysN ha) (by
  rintro σ H R ⟨μ, env, s, hv, hs, post⟩
  refine ⟨μ, env, s, hv, hs, (Post.bind (show Post X.K E μ H ((ma env >>= srcN) s) _ from post)).mono fun x s1 μ1 H1 g1 hs1 p1 v hx => ?_⟩
  unfold srcN at p1
  cases hx with
  | @ptr a n hn =>
    cases ec : s1[n]? with
    | none => simp only [ec] at p1; exact (show False from p1).elim
    | some cl =>
      obtain ⟨b, hb, hc⟩ := hs1.cell n _ ec
      rw [hn] at hb
      cases hb
      have ha := List.mem_of_getElem? hn
      simp only [ec] at p1
      cases cl with
      | dN kvs =>
        obtain ⟨ents, h1, h2⟩ := hc
        refine ⟨a, rfl, .inl ⟨ents, h1, fun od => ?_⟩⟩
        have g := grow_frz (μ := μ1) (o := od) h1 trivial ha
        have hs2 : SimS X.K μ1 (upd H1 a (.frz od (.ext (NDict a ents)))) (s1.set n (.fN kvs)) := hs1.put hn (by rw [h1]; trivial) ⟨od, ents, upd_same, h2.grow g⟩
        exact p1 μ1 _ g hs2 _ (good_keysN upd_same (h2.grow g))
      | fN kvs =>
        obtain ⟨od, ents, h1, h2⟩ := hc
        exact ⟨a, rfl, .inr (.inr ⟨od, ents, h1, Post.now (E := E) p1 hs1 _ (good_keysN h1 h2)⟩)⟩
      | dK kvs =>
        cases kvs with
        | nil =>
          obtain ⟨xs, h1, h2⟩ := hc
          have : xs = [] := by
            have := congrArg List.length h2.1
            simpa using this
          subst this
          refine ⟨a, rfl, .inr (.inl ⟨h1, fun od => ?_⟩)⟩
          have g := grow_frz (μ := μ1) (o := od) h1 trivial ha
          have hs2 : SimS X.K μ1 (upd H1 a (.frz od (.dK []))) (s1.set n (.fK [])) := hs1.put hn (by rw [h1]; trivial) ⟨od, [], upd_same, rfl, .nil⟩
          exact p1 μ1 _ g hs2 _ (good_none upd_same)
        | cons _ _ => exact (show False from p1).elim
      | _ => exact (show False from p1).elim
  | _ => exact (show False from p1).elim)
end
/-! ### displays -/
section
variable {prog : Program} {w : World} {A : Around} {E : Value → Shared → Prop}
def CarN (h : Heap) : List (Value × Value) → List (NestedKey × Addr × Value) → Prop := Paired fun v q => v.1 = .ref q.2.1 ∧ v.2 = q.2.2 ∧ (nestedKind prog w).is h q.1 q.2.1
theorem CarN.but {h h' : Heap} {d : Addr} {o : Obj} {es : Array DictEntry} {ep : Nat} (hd : h.get? d = some o) (hdt : o.data = .dict es ep) (k : Heap.SameBut d h h') : ∀ {vs : List (Value × Value)} {qs : List (NestedKey × Addr × Value)}, CarN (prog := prog) (w := w) h vs qs → CarN (prog := prog) (w := w) h' vs qs
  | _, _, .nil => .nil
  | _, _, .cons ⟨a, b, c⟩ t => .cons ⟨a, b, (nestedKind prog w).keeps c hd hdt k⟩ (CarN.but hd hdt k t)
theorem CarN.length {h : Heap} : ∀ {vs : List (Value × Value)} {qs : List (NestedKey × Addr × Value)}, CarN (prog := prog) (w := w) h vs qs → vs.length = qs.length
  | _, _, .nil => rfl
  | _, _, .cons _ t => by rw [List.length_cons, List.length_cons, CarN.length t]
def mergedN (acc more : List (NestedKey × Addr × Value)) : List (NestedKey × Addr × Value) := more.foldl (fun acc q => storedH acc q.1 q.2.1 q.2.2) acc
theorem storedN_le (xs : List (NestedKey × Addr × Value)) (k : NestedKey) (a : Addr) (v : Value) : (storedH xs k a v).length ≤ xs.length + 1 := by
  unfold storedH
  split
  · rw [List.length_map]; omega
  · rw [List.length_append]; exact Nat.le_refl _
theorem storeAllN {d : Addr} (hu : A.units + 8 < cLine) : ∀ (vs : List (Value × Value)) (kvs acc : List (NestedKey × Addr × Value)) (s : Shared) (Q : PUnit → Shared → Prop), CarN (prog := prog) (w := w) s.heap vs kvs → s.heap.DictOfH (nestedKind prog w) d acc → acc.length + kvs.length ≤ sizeLine →
    (∀ h' tk, h'.DictOfH (nestedKind prog w) d (mergedN acc kvs) → Heap.SameBut d s.heap h' → Q PUnit.unit { s with heap := h', toks := tk }) →
    wpAny (model prog w) A (forIn vs PUnit.unit fun x _ => do
      dictSet d x.1 x.2
      pure (ForInStep.yield PUnit.unit)) Q E s
  | _, _, acc, s, Q, .nil, hm, hl, h => by
    refine wpAny_pure ?_
    exact h s.heap s.toks hm (Heap.SameBut.refl _ _)
  | v :: vs, q :: kvs, acc, s, Q, .cons ⟨e1, e2, hk⟩ t, hm, hl, h => by
    obtain ⟨v1, v2⟩ := v
    simp only [] at e1 e2
    subst e1 e2
    rw [List.length_cons] at hl
    rw [List.forIn_cons]
    obtain ⟨o, es, ep, ho, hx, hd, _⟩ := id hm
    refine wpAny_bind (wpAny_bind (wpAny_dictSet_heap (knd := nestedKind prog w) (k := q.1) (hsz := by omega) hu hk hm fun h2 hm2 hs2 => wpAny_pure ?_))
    refine storeAllN hu vs kvs _ _ Q (CarN.but ho hd hs2 t) hm2 ?_ fun h' tk d' s' => ?_
    · exact Nat.le_trans (Nat.add_le_add_right (storedN_le acc q.1 q.2.1 q.2.2) _) (by omega)
    · exact h h' tk d' (hs2.trans s')
theorem subDictN (hu : A.units + 8 < cLine) {s : Shared} {pairs : List (Sem Value × Sem Value)} {Q : Addr → Shared → Prop} (hlen : pairs.length ≤ 15)
    (h : wpAny (model prog w) A (evalPairs pairs) (fun vs s1 => ∃ kvs, CarN (prog := prog) (w := w) s1.heap vs kvs ∧ s1.heap.DictOfH (nestedKind prog w) s.heap.objs.size [] ∧
      ∀ h' tk, h'.DictOfH (nestedKind prog w) s.heap.objs.size (mergedN [] kvs) → Heap.SameBut s.heap.objs.size s1.heap h' → Q s.heap.objs.size { s1 with heap := h', toks := tk }) E
      { s with heap := s.heap.push { cls := Value.type "dict", data := Data.dict #[] } }) : wpAny (model prog w) A (subDict pairs) Q E s := by
  unfold subDict
  refine wpAny_bind (wpAny_alloc (wpAny_bind (wpAny_holding ?_)))
  rw [if_pos hlen]
  refine wpAny_bind (wpAny_mono (wpAny_evalPairs_len h) (fun vs s1 h1 => ?_) fun _ _ e => e)
  obtain ⟨hvl, kvs, hc, hm, hQ⟩ := h1
  have hsz : ([] : List (NestedKey × Addr × Value)).length + kvs.length ≤ sizeLine := by
    have := hc.length
    rw [List.length_nil, Nat.zero_add, ← this, hvl]
    exact Nat.le_trans hlen (by decide)
  exact wpAny_holding (wpAny_bind (storeAllN hu vs kvs [] s1 _ hc hm hsz fun h' tk hm' hs' => wpAny_pure (wpAny_pure (hQ h' tk hm' hs'))))
theorem wpDictN (hu : A.units + 8 < cLine) {s : Shared} {env : PySem.Env} {keys : List (Option Expr)} {values : List Expr} {pos : Pos} {Q : Value → Shared → Prop} (hall : (keys.all fun x => x.isSome) = true) (hl : keys.length = values.length) (h0 : keys ≠ []) (h15 : keys.length ≤ 15)
    (h : wpAny (model prog w) A (evalPairs (pairTrees keys values env pos)) (fun vs s1 => ∃ kvs, CarN (prog := prog) (w := w) s1.heap vs kvs ∧ s1.heap.DictOfH (nestedKind prog w) s.heap.objs.size [] ∧
      ∀ h' tk, h'.DictOfH (nestedKind prog w) s.heap.objs.size (mergedN [] kvs) → Heap.SameBut s.heap.objs.size s1.heap h' → Q (.ref s.heap.objs.size) { s1 with heap := h', toks := tk }) E
      { s with heap := s.heap.push { cls := Value.type "dict", data := Data.dict #[] } }) : wpAny (model prog w) A (eval (Expr.Dict keys values pos) env) Q E s := by
  have hn := pairTrees_length keys values env pos hall hl
  have hne : pairTrees keys values env pos ≠ [] := fun he => h0 (List.length_eq_zero_iff.mp (by rw [← hn, he]; rfl))
  rw [arm_eval_Dict, zip_pairTrees keys values env pos hall hl, dictDisplay_pairs _ hne (by omega)]
  refine wpAny_bind (wpAny_standAt (wpAny_bind (subDictN hu (by omega) (wpAny_mono h (fun vs s1 h1 => ?_) fun _ _ e => e))))
  obtain ⟨kvs, hc, hm, hq⟩ := h1
  exact ⟨kvs, hc, hm, fun h' tk a b => wpAny_pure (hq h' tk a b)⟩
end
def EntP : List (V × V) → List Ent → Prop := Paired fun p e => p.1 = V.ref e.2.1 ∧ p.2 = e.2.2
def mergeE (acc more : List Ent) : List Ent := more.foldl (fun acc e => putE acc e.1 e.2.1 e.2.2) acc
theorem mergeE_rel : ∀ {more acc : List Ent} {qs xs : List (NestedKey × Addr × Value)}, Paired EntR more qs → Paired EntR acc xs → Paired EntR (mergeE acc more) (mergedN xs qs)
  | _, acc, _, xs, .nil, h => h
  | e :: more, acc, q :: qs, xs, .cons ⟨a, b, c⟩ t, h => by
    show Paired EntR (mergeE (putE acc e.1 e.2.1 e.2.2) more) (mergedN (storedH xs q.1 q.2.1 q.2.2) qs)
    rw [← a, ← b]
    exact mergeE_rel t (putE_rel h c)
theorem mergeE_len : ∀ (more acc : List Ent), (mergeE acc more).length ≤ acc.length + more.length
  | [], acc => Nat.le_refl _
  | e :: more, acc => by
    have h1 := mergeE_len more (putE acc e.1 e.2.1 e.2.2)
    have h2 := putE_len acc e.1 e.2.1 e.2.2
    show (mergeE (putE acc e.1 e.2.1 e.2.2) more).length ≤ acc.length + (more.length + 1)
    omega
def tDispN (X : Cx) (trs : List (TE × TE)) : TE := fun σ H Q => ∀ p, H p = none → tPairs trs σ (upd H p (.dK [])) fun ps H2 => H2 p = some (.dK []) ∧ ∃ (μ : Mu) (ents : List Ent), EntP ps ents ∧ KeysOk X.K μ H2 ents ∧ ents.length ≤ 15 ∧ Q (.ref p) (upd H2 p (.ext (NDict p (mergeE [] ents))))
theorem carN_of {X : Cx} {pins : List (Addr × Obj)} {σ : L2.St} {H : Hp} {s : Shared} {μ : Mu} (I : Inv X pins σ H s) : ∀ {ps : List (V × V)} {ents : List Ent} {ws : List (Value × Value)}, EntP ps ents → KeysOk X.K μ H ents → VV ps ws → ∃ qs, CarN (prog := X.prog) (w := X.w) s.heap ws qs ∧ Paired EntR ents qs
  | _, _, _, .nil, _, .nil => ⟨[], .nil, .nil⟩
  | p :: ps, e :: ents, v :: ws, .cons ⟨e1, e2⟩ t, hk, .cons r rt => by
    obtain ⟨qs, h1, h2⟩ := carN_of I t ⟨fun x hx => hk.at_ x (List.mem_cons_of_mem _ hx), fun x hx => hk.ok x (List.mem_cons_of_mem _ hx)⟩ rt
    obtain ⟨r1, r2⟩ := r
    rw [e1] at r1
    obtain r1 : v.1 = Value.ref e.2.1 := r1
    rw [e2] at r2
    have h0 := hk.ok e List.mem_cons_self
    exact ⟨(e.1, e.2.1, v.2) :: qs, .cons ⟨r1, rfl, nested_of I _ _ _ h0.1 (hk.at_ e List.mem_cons_self) rfl, h0.2⟩ h1, .cons ⟨rfl, rfl, r2⟩ h2⟩
theorem pe_dispN {X : Cx} {pos : Pos} {keys : List (Option Expr)} {values : List Expr} {trs : List (TE × TE)} (hu : X.A.units + 8 < cLine) (h : PPs X pos keys values trs) (hall : (keys.all fun x => x.isSome) = true) (hl : keys.length = values.length) (h0 : keys ≠ []) (h15 : keys.length ≤ 15) :
    PE X (Expr.Dict keys values pos) (tDispN X trs) := ⟨fun pins s σ H Q I q => by
  have hn := I.hok.fresh (Nat.le_refl s.heap.objs.size)
  have I1 : Inv X pins σ (upd H s.heap.objs.size (.dK [])) { s with heap := s.heap.push { cls := Value.type "dict", data := Data.dict #[] } } := I.laid (fun x x_1 q => Heap.get?_push_of_some _ q) (Nat.le_refl _) (dk_empty s.heap I.big)
  refine wpDictN hu hall hl h0 h15 (wpAny_mono (h.run pins _ σ _ _ I1 (q s.heap.objs.size hn)) (fun ws s2 z => ?_) fun _ _ e => e)
  obtain ⟨ps, H2, I2, rel, e, μ, ents, ep, hk, lk, q2⟩ := z
  obtain ⟨qs, hc, kt⟩ := carN_of I2 ep hk rel
  obtain ⟨xs, p0, dd, hs0, _⟩ := nd_at (μ := μ) (ents := []) I2 (.inr (.inr ⟨rfl, e⟩)) ⟨fun _ h => (nomatch h), fun _ h => (nomatch h)⟩
  cases p0
  refine ⟨qs, hc, dd, fun h' tk dd' hs => ⟨.ref s.heap.objs.size, upd H2 s.heap.objs.size (.ext (NDict s.heap.objs.size (mergeE [] ents))), ?_, rfl, q2⟩⟩
  have he : ∃ q, h'.get? s.heap.objs.size = some q := by
    obtain ⟨o, _, _, ho, _⟩ := id dd'
    exact ⟨o, ho⟩
  refine d_write I2 (by rw [e]; trivial) hs he (nd_ext ⟨hs0, ?_, _, mergeE_rel kt .nil, h_raw dd'⟩)
  have := mergeE_len ents []
  rw [List.length_nil, Nat.zero_add] at this
  exact Nat.le_trans (Nat.le_trans this lk) (by decide)⟩
def nKeysP : List (D × D) → Option (List (NestedKey × D)) := mapO fun p => (nKeyT p.1).map fun k => (k, p.2)
def mergeND (kvs more : List (NestedKey × D)) : List (NestedKey × D) := more.foldl (fun acc kv => putND acc kv.1 kv.2) kvs
def fillN (n : Nat) (ps : List (D × D)) : M D := fun s => match s[n]?, nKeysP ps with
  | some (.dK []), some kvs => if kvs.length ≤ 15 then .ok (.ptr n) (s.set n (.dN (mergeND [] kvs))) else .stuck
  | _, _ => .stuck
def dispNM (mr : Env → M (List (D × D))) (env : Env) : M D := allocC (.dK []) >>= fun p => mr env >>= fun ps => match p with
  | .ptr n => fillN n ps
  | _ => stuck
theorem nKeys_rep {K : PySem.W.Frag} {μ : Mu} {H : Hp} : ∀ {ds : List (D × D)} {ps : List (V × V)} {kvs : List (NestedKey × D)}, nKeysP ds = some kvs → RepP K μ H ps ds → ∃ ents : List Ent, EntP ps ents ∧ EntsOk K μ H ents kvs
  | [], ps, kvs, e, ⟨h1, h2⟩ => by
    cases e
    cases ps with
    | nil => exact ⟨[], .nil, EntsOk.nil⟩
    | cons p ps => rw [List.map_cons] at h1; cases h1
  | d :: ds, ps, kvs, e, ⟨h1, h2⟩ => by
    cases ps with
    | nil => rw [List.map_cons] at h1; cases h1
    | cons p ps =>
      rw [List.map_cons, List.map_cons] at h1 h2
      cases h1 with
      | cons r1 t1 =>
        cases h2 with
        | cons r2 t2 =>
          unfold nKeysP mapO at e
          cases q : nKeyT d.1 with
          | none => rw [q] at e; cases e
          | some k =>
            rw [q] at e
            cases q2 : mapO (fun p : D × D => (nKeyT p.1).map fun k => (k, p.2)) ds with
            | none => rw [q2] at e; cases e
            | some ms =>
              rw [q2] at e
              cases e
              obtain ⟨ents, e1, e2⟩ := nKeys_rep (ds := ds) q2 ⟨t1, t2⟩
              obtain ⟨⟨es, ed⟩, k1, k2, k3⟩ := nKeyT_ok q
              rw [ed] at r1
              obtain ⟨p1, p2⟩ := p
              simp only [] at r1 r2
              cases r1 with
              | @tup a xs _ ht hl =>
                refine ⟨(k, a, p2) :: ents, .cons ⟨rfl, rfl⟩ e1, ?_, ?_, fun x hx => ?_, fun x hx => ?_⟩
                · rw [List.map_cons, List.map_cons, e2.ks]
                · rw [List.map_cons, List.map_cons]; exact .cons r2 e2.vs
                · rcases List.mem_cons.mp hx with rfl | hx
                  · show Rep K μ H (.ref a) (nkD k)
                    rw [k1, ed]
                    exact .tup ht hl
                  · exact e2.at_ x hx
                · rcases List.mem_cons.mp hx with rfl | hx
                  · exact ⟨k2, k3⟩
                  · exact e2.ok x hx
theorem merge_ents {K : PySem.W.Frag} {μ : Mu} {H : Hp} : ∀ {more : List Ent} {md : List (NestedKey × D)} {ents : List Ent} {ds : List (NestedKey × D)}, EntsOk K μ H more md → EntsOk K μ H ents ds → EntsOk K μ H (mergeE ents more) (mergeND ds md)
  | [], [], _, _, _, h => h
  | [], q :: md, _, _, h, _ => by have := h.ks; simp at this
  | p :: more, [], _, _, h, _ => by have := h.ks; simp at this
  | p :: more, q :: md, ents, ds, h, h0 => by
    have ks := h.ks
    have vs := h.vs
    rw [List.map_cons, List.map_cons] at ks vs
    injection ks with k1 k2
    cases vs with
    | cons r t =>
      show EntsOk K μ H (mergeE (putE ents p.1 p.2.1 p.2.2) more) (mergeND (putND ds q.1 q.2) md)
      have e : p.1 = q.1 := k1
      rw [← e]
      exact merge_ents ⟨k2, t, fun x hx => h.at_ x (List.mem_cons_of_mem _ hx), fun x hx => h.ok x (List.mem_cons_of_mem _ hx)⟩ (put_ents h0 (h.at_ p List.mem_cons_self) (h.ok p List.mem_cons_self) r)
section
variable {X : Cx} {E : XK}
theorem se_dispN {pos : Pos} {keys : List (Option Expr)} {values : List Expr} {mr : Env → M (List (D × D))} (hu : X.A.units + 8 < cLine) (h : SPs X E pos keys values mr) (hall : keys.all (·.isSome) = true := by rfl) (hl : keys.length = values.length := by rfl) (h0 : keys ≠ [] := by exact List.cons_ne_nil _ _)
    (h15 : keys.length ≤ 15 := by decide) : SE X E (.Dict keys values pos) (dispNM mr) := by
  obtain ⟨trs, h1, h2⟩ := h
  refine PE.imp (pe_dispN hu h1 hall hl h0 h15) ?_
  rintro σ H Q ⟨μ, env, s, hv, hs, post⟩ p hp
  have hs2 : SimS X.K (μ.add p) (upd H p (.dK [])) (s ++ [.dK []]) := hs.alloc hp ⟨[], upd_same, rfl, .nil⟩
  have g := grow_cell (μ := μ) (o := .dK []) hp
  have post1 : Post X.K E (μ.add p) (upd H p (.dK [])) ((mr env >>= fun ps => fillN s.length ps) (s ++ [.dK []])) (okD X.K Q) := Post.later g post
  refine h2 _ _ _ ⟨μ.add p, env, _, hv.grow g, hs2, (Post.bind post1).mono fun ds s1 μ1 H1 g1 hs1 p1 ps hps => ?_⟩
  have hat : μ1.c[s.length]? = some p := g1.at (add_at hs)
  unfold fillN at p1
  cases ec : s1[s.length]? with
  | none => simp only [ec] at p1; exact (show False from p1).elim
  | some cl =>
    simp only [ec] at p1
    split at p1
    · rename_i kvs e1 e2
      cases e1
      split at p1
      · rename_i hz
        obtain ⟨xs, f1, f2⟩ := cell_dK hs1 hat ec
        have fx : xs = [] := by
          have := f2.length
          exact List.length_eq_zero_iff.mp this
        subst fx
        obtain ⟨ents, y1, y2⟩ := nKeys_rep e2 hps
        refine ⟨f1, μ1, ents, y1, y2.keys, by rw [y2.len]; exact hz, ?_⟩
        obtain ⟨g2, hs3⟩ := put_cellN (ents := []) hs1 hat (.inr ⟨rfl, f1⟩) (merge_ents y2 EntsOk.nil)
        exact p1 _ _ g2 hs3 (.ref p) (.ptr hat)
      · exact (show False from p1).elim
    · exact (show False from p1).elim
end
end PL

/-! PL44: texts: str(i), divmod, int(text), zfill, f-strings, text times int. -/
namespace PL
open PySem PySem.Spec PyProof.Rows L2
def numS (i : Int) : Str := Str.ofString (toString i)
section
variable {X : Cx} {E : XK}
/-! ### str(i) -/
def strID (d : D) : M D := match d with
  | .int i => if i.natAbs.log2 < 1920 then pure (.str (numS i)) else stuck
  | _ => stuck
theorem cr_strI : CallR X (.type "str") (RLof X.K E (fun1 strID)) := CallR.imp call_str_int (rl_1 fun μ s d v H Q hs r post => by
  unfold strID at post
  cases r with
  | int i =>
    simp only [] at post
    split at post
    · rename_i h
      exact ⟨i, rfl, h, Post.now (a := D.str (numS i)) post hs _ (.str _)⟩
    · exact (show False from post).elim
  | _ => exact (show False from post).elim)
/-! ### int(text) -/
def intSD (d : D) : M D := match d with
  | .str a => (match PySem.intText? a with
    | some n => if a.length ≤ 640 then pure (.int n) else stuck
    | none => stuck)
  | _ => stuck
theorem cr_intS : CallR X (.type "int") (RLof X.K E (fun1 intSD)) := CallR.imp call_int_str (rl_1 fun μ s d v H Q hs r post => by
  unfold intSD at post
  cases r with
  | str a =>
    simp only [] at post
    cases e : PySem.intText? a with
    | none => simp only [e] at post; exact (show False from post).elim
    | some n =>
      simp only [e] at post
      split at post
      · rename_i h
        exact ⟨a, n, rfl, e, h, Post.now (a := D.int n) post hs _ (.int _)⟩
      · exact (show False from post).elim
  | _ => exact (show False from post).elim)
/-! ### divmod -/
def divmodL (ds : List D) : M D := match ds with
  | [.int i, .int j] => if 0 < j ∧ Builtin.divisionGoesByPylong i j = false then pure (.tup [.int (i / j), .int (i % j)]) else stuck
  | _ => stuck
theorem cr_divmod : CallR X (.builtin "divmod") (RLof X.K E divmodL) := CallR.imp call_divmodW (by
  rintro xs H Q ⟨μ, s, ds, hs, hl, post⟩
  unfold divmodL at post
  split at post
  · rename_i i j
    cases hl with
    | cons r hl =>
      cases hl with
      | cons r' hl =>
        cases hl
        cases r
        cases r'
        split at post
        · rename_i h
          exact ⟨i, j, rfl, h, post_tup (xs := [.int (i / j), .int (i % j)]) hs (.cons (.int _) (.cons (.int _) .nil)) post⟩
        · exact (show False from post).elim
  · exact (show False from post).elim)
/-! ### zfill -/
def zfD (x y : D) : M D := match x, y with
  | .str a, .int i => if PadOk i = true then pure (.str (Txt.zfill a i)) else stuck
  | _, _ => stuck
def zfM (mo ma : Env → M D) (env : Env) : M D := mo env >>= fun x => (match x with
  | .str _ => (pure () : M Unit)
  | _ => stuck) >>= fun _ => ma env >>= fun y => zfD x y
theorem se_zfill {o e : Expr} {mo ma : Env → M D} {apos pos : Pos} (ho : SE X E o mo) (he : SE X E e ma)
    (hs : starEach [e] X.env = [(false, eval e X.env)] := by rfl) (hbase : attributeBase o "zfill" X.env (eval o X.env) = eval o X.env := by rfl) (hline : (apos.endLine == pos.line) = true := by rfl) : SE X E (.Call (.Attribute o "zfill" apos) [e] [] pos) (zfM mo ma) :=
  PE.imp (pe_m1 PySem.F.slot_str_zfill PySem.F.type_str_zfill mt_zfill ho he hs hbase hline) (by
  rintro σ H Q ⟨μ, env, s, hv, hs, post⟩
  refine ⟨μ, env, s, hv, hs, (Post.bind post).mono fun x s1 μ1 H1 g1 hs1 p1 v hx => ?_⟩
  cases hx with
  | str a =>
    refine ⟨⟨a, rfl⟩, μ1, env, s1, hv.grow g1, hs1, (Post.bind (show Post X.K E μ1 H1 ((ma env >>= fun y => zfD (.str a) y) s1) _ from p1)).mono fun y s2 μ2 H2 g2 hs2 p2 w hy => ?_⟩
    unfold zfD at p2
    cases hy with
    | int i =>
      simp only [] at p2
      split at p2
      · rename_i h
        exact ⟨a, i, rfl, rfl, h, Post.now (a := D.str (Txt.zfill a i)) p2 hs2 _ (.str _)⟩
      · exact (show False from p2).elim
    | _ => exact (show False from p2).elim
  | _ => exact (show False from p1).elim)
/-! ### f-strings -/
def fmtD (d : D) : M D := match d with
  | .str y => if y.length ≤ 100000 then pure (.str y) else stuck
  | .int i => if i.natAbs.log2 < 1920 then pure (.str (numS i)) else stuck
  | _ => stuck
theorem se_fmt {e : Expr} {me : Env → M D} {pos : Pos} (he : SE X E e me) : SE X E (.FormattedValue e (-1) none pos) (unM fmtD me) := PE.imp (pe_fmt he) (by
  rintro σ H Q ⟨μ, env, s, hv, hs, post⟩
  refine ⟨μ, env, s, hv, hs, (Post.bind post).mono fun x s1 μ1 H1 g1 hs1 p1 v hx => ?_⟩
  unfold fmtD at p1
  cases hx with
  | str y =>
    simp only [] at p1
    split at p1
    · rename_i h
      exact .inl ⟨y, rfl, sz_ok h, Post.now (a := D.str y) p1 hs1 _ (.str _)⟩
    · exact (show False from p1).elim
  | int i =>
    simp only [] at p1
    split at p1
    · rename_i h
      exact .inr ⟨i, rfl, h, Post.now (a := D.str (numS i)) p1 hs1 _ (.str _)⟩
    · exact (show False from p1).elim
  | _ => exact (show False from p1).elim)
def jNilM (acc : Str) (_ : Env) : M D := pure (.str acc)
def jConsM (m : Env → M D) (mr : Str → Env → M D) (acc : Str) (env : Env) : M D := m env >>= fun x => match x with
  | .str y => if (acc ++ y).length ≤ 100000 then mr (acc ++ y) env else stuck
  | _ => stuck
structure SJs (X : Cx) (E : XK) (es : List Expr) (m : Str → Env → M D) : Prop where
  run : ∃ ts, PJ X es ts ∧ ∀ (acc : Str) (σ : L2.St) (H : Hp) (Q : VK), TEof X.K E (m acc) σ H Q → tJs ts acc σ H fun out H1 => Q (.str out) H1
theorem sj_nil : SJs X E [] jNilM := ⟨[], .nil, by
  rintro acc σ H Q ⟨μ, env, s, hv, hs, post⟩
  exact Post.now (a := D.str acc) post hs _ (.str _)⟩
theorem sj_cons {e : Expr} {es : List Expr} {m : Env → M D} {mr : Str → Env → M D} (he : SE X E e m) (hr : SJs X E es mr) : SJs X E (e :: es) (jConsM m mr) := by
  obtain ⟨ts, h1, h2⟩ := hr
  refine ⟨TEof X.K E m :: ts, .cons he h1, ?_⟩
  rintro acc σ H Q ⟨μ, env, s, hv, hs, post⟩
  refine ⟨μ, env, s, hv, hs, (Post.bind post).mono fun x s1 μ1 H1 g1 hs1 p1 v hx => ?_⟩
  cases hx with
  | str y =>
    simp only [] at p1
    split at p1
    · rename_i h
      exact ⟨y, rfl, sz_ok h, h2 _ _ _ _ ⟨μ1, env, s1, hv.grow g1, hs1, p1⟩⟩
    · exact (show False from p1).elim
  | _ => exact (show False from p1).elim
theorem se_joined {e1 e2 : Expr} {es : List Expr} {m : Str → Env → M D} {pos : Pos} (h : SJs X E (e1 :: e2 :: es) m) : SE X E (.JoinedStr (e1 :: e2 :: es) pos) (m Str.empty) := by
  obtain ⟨ts, h1, h2⟩ := h
  exact PE.imp (pe_joined h1) fun σ H Q q => h2 _ _ _ _ q
/-! ### text * int -/
def mulSD (x y : D) : M D := match x, y with
  | .str a, .int n => if 2 ≤ n ∧ n ≤ 100000 ∧ 0 < a.length ∧ a.length ≤ 100 then pure (.str (Txt.mul a n)) else stuck
  | _, _ => stuck
theorem op_mulSD : OpR X (binaryOp .Mult) (R2of X.K E mulSD) := by
  intro pins s σ H x y v u Q I rx ry h
  obtain ⟨μ, st, dx, dy, hs1, hx, hy, post⟩ := h
  unfold mulSD at post
  cases hx with
  | str a =>
    cases hy with
    | int n =>
      simp only [] at post
      split at post
      · rename_i hc
        obtain ⟨c1, c2, c3, c4⟩ := hc
        obtain ⟨t, rfl⟩ := rx
        obtain ⟨t2, rfl⟩ := ry
        have q := Post.now (a := D.str (Txt.mul a n)) post hs1 _ (.str _)
        have hn : ¬ n < 1 := by omega
        have e1 : (n == 1 || a.length == 0) = false := by
          rw [Bool.or_eq_false_iff]
          exact ⟨beq_eq_false_iff_ne.mpr (by omega), beq_eq_false_iff_ne.mpr (by omega)⟩
        have hm : a.length * n.toNat ≤ 10000000 := by
          have := Nat.mul_le_mul c4 (show n.toNat ≤ 100000 by omega)
          omega
        refine PySem.P.mul_str ?_ (fun _ _ => ?_) (fun _ _ => ?_) ?_
        · rw [Bool.or_eq_false_iff]
          exact ⟨decide_eq_false (by omega), decide_eq_false (by omega)⟩
        · have hd : (100 : Int) ≤ (2 ^ 63 - 1) / n := Int.le_ediv_of_mul_le (by omega) (by omega)
          omega
        · exact decide_eq_false (by have e := sizeLine_eq; omega)
        · have em : Txt.mul a n = ⟨(List.replicate n.toNat a.cps).foldl (· ++ ·) #[]⟩ := by
            unfold Txt.mul
            rw [if_neg hn, e1, if_neg (by decide)]
          rw [if_neg hn, e1, if_neg (by decide), ← em]
          refine ⟨?_, .str (Txt.mul a n), H, I.tok _, ⟨_, rfl⟩, q⟩
          have hl := len_mul_leN (x := a) (n := n) (L := 100) (N := 100000) c4 (show n ≤ ((100000 : Nat) : Int) from c2)
          have e := sizeLine_eq
          omega
      · exact (show False from post).elim
    | _ => exact (show False from post).elim
  | _ => exact (show False from post).elim
theorem se_mulS {a b : Expr} {ma mb : Env → M D} {pos : Pos} (ha : SE X E a ma) (hb : SE X E b mb) : SE X E (.BinOp a .Mult b pos) (binM mulSD ma mb) := se_bin op_mulSD ha hb
end
end PL
namespace PL
open PySem PySem.Spec PyProof.Rows L2
theorem fn_stuckX {P : Program} {w : World} {K : PySem.W.Frag} {mg : Str → Option Value} {base : Heap} {CX : CXT} {f : Addr} {fd : FuncData} {ps : List Str} {k n : Nat} : FnOk P w K mg base CX k f fd ps (spM K n fun _ => stuck) := fn_stuck
end PL

/-! M0: fractions, Euclid's steps, the law's own draws: mathematics and small readings. -/
namespace PL
open PySem PySem.Spec PyProof.Rows L2

abbrev num (n d : Int) : D := .tup [.int n, .int d]
/-- what is taken out of n and d: their greatest divisor, with d's sign -/
def ratC (n d : Int) : Int := if d < 0 then -((Nat.gcd n.natAbs d.natAbs : Nat) : Int) else ((Nat.gcd n.natAbs d.natAbs : Nat) : Int)
def rat (n d : Int) : Int × Int := (n / ratC n d, d / ratC n d)
structure IsRat (r : Int × Int) (n d : Int) : Prop where
  pos : 0 < r.2
  eq : r.1 * d = n * r.2
  cop : Nat.gcd r.1.natAbs r.2.natAbs = 1
theorem ratC_abs (n d : Int) : (ratC n d).natAbs = Nat.gcd n.natAbs d.natAbs := by
  unfold ratC
  split <;> omega
theorem gcd_pos {n d : Int} (h : d ≠ 0) : 0 < Nat.gcd n.natAbs d.natAbs := Nat.gcd_pos_of_pos_right _ (by omega)
theorem ratC_ne {n d : Int} (h : d ≠ 0) : ratC n d ≠ 0 := fun z => by
  have h1 := ratC_abs n d
  have h2 := gcd_pos (n := n) h
  rw [z] at h1
  simp at h1
  omega
theorem ratC_n (n d : Int) : ratC n d ∣ n := Int.natAbs_dvd_natAbs.mp (by rw [ratC_abs]; exact Nat.gcd_dvd_left _ _)
theorem ratC_d (n d : Int) : ratC n d ∣ d := Int.natAbs_dvd_natAbs.mp (by rw [ratC_abs]; exact Nat.gcd_dvd_right _ _)
theorem ratC_bt {n d : Int} {k : Nat} (h : d ≠ 0) (b : Bt k d) : Bt k (ratC n d) := b.le (by
  rw [ratC_abs]
  exact Nat.gcd_le_right _ (by omega))
theorem rat_n (n d : Int) : ratC n d * (rat n d).1 = n := Int.mul_ediv_cancel' (ratC_n n d)
theorem rat_d (n d : Int) : ratC n d * (rat n d).2 = d := Int.mul_ediv_cancel' (ratC_d n d)
theorem rat_is {n d : Int} (h : d ≠ 0) : IsRat (rat n d) n d := by
  have hn := rat_n n d
  have hd := rat_d n d
  have hc := ratC_ne (n := n) h
  refine ⟨?_, ?_, ?_⟩
  · have hs : ratC n d < 0 ↔ d < 0 := by
      have h1 := gcd_pos (n := n) h
      unfold ratC
      split <;> omega
    have h0 : (rat n d).2 ≠ 0 := fun z => by
      rw [z, Int.mul_zero] at hd
      exact h hd.symm
    by_cases hlt : d < 0
    · have hcn := hs.mpr hlt
      by_cases hp : 0 < (rat n d).2
      · exact hp
      · have := Int.mul_nonneg_of_nonpos_of_nonpos (Int.le_of_lt hcn) (by omega : (rat n d).2 ≤ 0)
        omega
    · have hcp : 0 < ratC n d := by
        have := mt hs.mp hlt
        omega
      by_cases hp : 0 < (rat n d).2
      · exact hp
      · have := Int.mul_nonpos_of_nonneg_of_nonpos (Int.le_of_lt hcp) (by omega : (rat n d).2 ≤ 0)
        omega
  · have e1 : (rat n d).1 * d = (rat n d).1 * (ratC n d * (rat n d).2) := by rw [hd]
    have e2 : n * (rat n d).2 = (ratC n d * (rat n d).1) * (rat n d).2 := by rw [hn]
    rw [e1, e2]
    grind
  · have e1 : n.natAbs = Nat.gcd n.natAbs d.natAbs * (rat n d).1.natAbs := by
      rw [← ratC_abs, ← Int.natAbs_mul, hn]
    have e2 : d.natAbs = Nat.gcd n.natAbs d.natAbs * (rat n d).2.natAbs := by
      rw [← ratC_abs, ← Int.natAbs_mul, hd]
    have e3 := Nat.gcd_mul_left (Nat.gcd n.natAbs d.natAbs) (rat n d).1.natAbs (rat n d).2.natAbs
    rw [← e1, ← e2] at e3
    have hg := gcd_pos (n := n) h
    exact Nat.eq_of_mul_eq_mul_left hg (by rw [Nat.mul_one]; exact e3.symm)
theorem rat_bt1 {n d : Int} {k : Nat} (h : d ≠ 0) (b : Bt k n) : Bt k (rat n d).1 := b.le (by
  have e := congrArg Int.natAbs (rat_n n d)
  rw [Int.natAbs_mul] at e
  have := ratC_ne (n := n) h
  have hp : 0 < (ratC n d).natAbs := by omega
  rw [← e]
  exact Nat.le_mul_of_pos_left _ hp)
theorem rat_bt2 {n d : Int} {k : Nat} (h : d ≠ 0) (b : Bt k d) : Bt k (rat n d).2 := b.le (by
  have e := congrArg Int.natAbs (rat_d n d)
  rw [Int.natAbs_mul] at e
  have := ratC_ne (n := n) h
  have hp : 0 < (ratC n d).natAbs := by omega
  conv => rhs; rw [← e]
  exact Nat.le_mul_of_pos_left _ hp)
theorem rat_pos {n d : Int} (h : d ≠ 0) : 0 < (rat n d).2 := (rat_is h).pos

/-! ### Euclid -/
/-- the greatest divisor by steps; at most k of them -/
def euc : Nat → Int → Int → Int
  | 0, _, _ => 1
  | k + 1, a, b => if b = 0 then (if a < 0 then -a else a) else euc k b (a % b)
theorem euc_ok : ∀ (k : Nat) (a b : Int) (n : Nat), 0 ≤ b → b < 2 ^ k → 2 * k + 1 ≤ n → euc n a b = ((Nat.gcd a.natAbs b.natAbs : Nat) : Int)
  | k, a, b, 0, _, _, h => by omega
  | k, a, b, n + 1, h0, hb, hn => by
    unfold euc
    by_cases hz : b = 0
    · rw [if_pos hz, hz]
      simp only [Int.natAbs_zero, Nat.gcd_zero_right]
      split <;> omega
    · rw [if_neg hz]
      have hg : ∀ x y : Int, y ≠ 0 → Nat.gcd y.natAbs (x % y).natAbs = Nat.gcd x.natAbs y.natAbs := fun x y hy => by
        have e := Int.gcd_add_mul_left_right y (x % y) (x / y)
        rw [Int.emod_add_mul_ediv] at e
        show Int.gcd y (x % y) = Int.gcd x y
        rw [← e, Int.gcd_comm]
      have hb1 : 0 ≤ a % b := Int.emod_nonneg _ hz
      have hb2 : a % b < b := Int.emod_lt_of_pos _ (by omega)
      cases k with
      | zero =>
        exfalso
        have : (2 : Int) ^ 0 = 1 := rfl
        omega
      | succ k =>
        cases n with
        | zero => omega
        | succ n =>
          unfold euc
          by_cases hz1 : a % b = 0
          · rw [if_pos hz1, ← hg a b hz, hz1]
            simp only [Int.natAbs_zero, Nat.gcd_zero_right]
            split <;> omega
          · rw [if_neg hz1]
            have h1 : 0 ≤ b % (a % b) := Int.emod_nonneg _ hz1
            have h2 : b % (a % b) < a % b := Int.emod_lt_of_pos _ (by omega)
            have h3 : 2 * (b % (a % b)) < b := by
              have e := Int.emod_add_mul_ediv b (a % b)
              have q : 1 ≤ b / (a % b) := by
                have := Int.ediv_le_ediv (show (0 : Int) < a % b by omega) (Int.le_of_lt hb2)
                rw [Int.ediv_self hz1] at this
                exact this
              have m : a % b ≤ (a % b) * (b / (a % b)) := by
                have := Int.mul_le_mul_of_nonneg_left q hb1
                rw [Int.mul_one] at this
                exact this
              omega
            have h4 : b % (a % b) < 2 ^ k := by
              rw [Int.pow_succ] at hb
              omega
            rw [euc_ok k (a % b) (b % (a % b)) n h1 h4 (by omega), hg b (a % b) hz1, hg a b hz]

/-! ### readings of the law's own small defs -/
theorem isi_run {T t : String} {d : D} {s : S} {b : Bool} (h1 : tyNm s d = some t) (h2 : kitB t T = some b) : isiD T d s = .ok (.bl b) s := by
  unfold isiD
  rw [h1]
  simp only [h2]
theorem isi_tt {ds : List D} {s : S} : isiD "tuple" (.tup ds) s = .ok (.bl true) s := isi_run rfl (by decide +kernel)
theorem isi_ii {i : Int} {s : S} : isiD "int" (.int i) s = .ok (.bl true) s := isi_run rfl (by decide +kernel)
theorem isi_bi {i : Bool} {s : S} : isiD "int" (.bl i) s = .ok (.bl true) s := isi_run rfl (by decide +kernel)
theorem isi_ib {i : Int} {s : S} : isiD "bool" (.int i) s = .ok (.bl false) s := isi_run rfl (by decide +kernel)
theorem isi_bb {i : Bool} {s : S} : isiD "bool" (.bl i) s = .ok (.bl true) s := isi_run rfl (by decide +kernel)
section
variable {mi : Env → M Src} {g : D → Env → M Env} {t : Env → M Bool} {e : Env → M D} {vs : List Nat} {env env0 : Env} {s : S} {r : Src} {d : D} {ds : List D}
theorem compM_run : compM mi g t e vs env s = (mi env s).on fun r s1 => (szM r.items.length s1).on fun _ s2 => (collM r g t e (wipeE env vs) r.items s2).on fun ys s3 => .ok (.ptr s3.length) (s3 ++ [.lst ys]) := by
  show (mi env >>= _) s = _
  rw [bind_on]
  congr 1
theorem szM_run {n : Nat} (h : n ≤ 100000) : szM n s = .ok () s := by
  show (if n ≤ 100000 then (Pure.pure () : M Unit) else stuck) s = _
  rw [if_pos h]
  rfl
theorem coll_nil : collM r g t e env0 [] s = (guardM r s).on fun _ s1 => .ok [] s1 := bind_on _ _ _
theorem coll_cons : collM r g t e env0 (d :: ds) s = (guardM r s).on fun _ s1 => (g d env0 s1).on fun env s2 => (t env s2).on fun b s3 => if b = true then (e env s3).on fun y s4 => (collM r g t e env0 ds s4).on fun ys s5 => .ok (y :: ys) s5 else collM r g t e env0 ds s3 := by
  show (guardM r >>= _) s = _
  rw [bind_on]
  congr 1
  funext u s1
  rw [bind_on]
  congr 1
  funext env s2
  rw [bind_on]
  congr 1
  funext b s3
  cases b with
  | true =>
    show (e env >>= _) s3 = _
    rw [bind_on]
    congr 1
  | false => rfl
/-- a comprehension that keeps every item and whose store stays -/
theorem coll_map {v : D → D} (ok : r.Ok s) (h : ∀ d ∈ ds, ((g d env0 s).on fun env s2 => (t env s2).on fun b s3 => if b = true then e env s3 else .stuck) = .ok (v d) s) : collM r g t e env0 ds s = .ok (ds.map v) s := by
  induction ds with
  | nil =>
    rw [coll_nil, guard_pos ok]
    rfl
  | cons d ds ih =>
    have h1 := h d List.mem_cons_self
    have h2 := ih fun x hx => h x (List.mem_cons_of_mem _ hx)
    rw [coll_cons, guard_pos ok, on_ok]
    cases eg : g d env0 s with
    | stuck => rw [eg] at h1; cases h1
    | exc c s1 => rw [eg] at h1; cases h1
    | ok env s1 =>
      rw [eg, on_ok] at h1
      rw [on_ok]
      cases et : t env s1 with
      | stuck => rw [et] at h1; cases h1
      | exc c s1 => rw [et] at h1; cases h1
      | ok b s3 =>
        rw [et, on_ok] at h1
        rw [on_ok]
        cases b with
        | false => cases h1
        | true =>
          simp only [if_true] at h1 ⊢
          rw [h1, on_ok, h2]
          rfl
end
theorem all_new {s : S} {bs : List Bool} : allD (.ptr s.length) (s ++ [.lst (bs.map D.bl)]) = .ok (.bl (bs.all id)) (s ++ [.lst (bs.map D.bl)]) := by
  have e1 : seqD (s ++ [.lst (bs.map D.bl)]) (.ptr s.length) = some (bs.map D.bl) := by
    show (match (s ++ [Cell.lst (bs.map D.bl)])[s.length]? with
      | some (.lst ds) => some ds
      | _ => none) = _
    rw [List.getElem?_append_right (Nat.le_refl _), Nat.sub_self]
    rfl
  have e2 : ∀ l : List Bool, dBls (l.map D.bl) = some l := fun l => by
    induction l with
    | nil => rfl
    | cons b l ih =>
      show (dBls (l.map D.bl)).map (b :: ·) = _
      rw [ih]
      rfl
  unfold allD
  simp only [e1, e2]
theorem any_new {s : S} {bs : List Bool} : anyD (.ptr s.length) (s ++ [.lst (bs.map D.bl)]) = .ok (.bl (bs.any id)) (s ++ [.lst (bs.map D.bl)]) := by
  have e1 : seqD (s ++ [.lst (bs.map D.bl)]) (.ptr s.length) = some (bs.map D.bl) := by
    show (match (s ++ [Cell.lst (bs.map D.bl)])[s.length]? with
      | some (.lst ds) => some ds
      | _ => none) = _
    rw [List.getElem?_append_right (Nat.le_refl _), Nat.sub_self]
    rfl
  have e2 : ∀ l : List Bool, dBls (l.map D.bl) = some l := fun l => by
    induction l with
    | nil => rfl
    | cons b l ih =>
      show (dBls (l.map D.bl)).map (b :: ·) = _
      rw [ih]
      rfl
  unfold anyD
  simp only [e1, e2]
theorem new_at {s : S} {c : Cell} : (s ++ [c])[s.length]? = some c := by
  rw [List.getElem?_append_right (Nat.le_refl _), Nat.sub_self]
  rfl
theorem old_at {s g : S} {k : Nat} {c : Cell} (h : s[k]? = some c) : (s ++ g)[k]? = some c := by
  rw [List.getElem?_append_left (List.getElem?_eq_some_iff.mp h).1]
  exact h
end PL

/-! M1: signs, loops that end at the first hit, comprehensions that leave lists behind. -/
namespace PL
open PySem PySem.Spec PyProof.Rows L2
def sgn (x : Int) : Int := if 0 < x then 1 else if x < 0 then -1 else 0
theorem mk2 {i j : Int} {k l : Nat} (h : Bt k i) (m : Bt l j) (hk : k ≤ 400000) (hl : l ≤ 400000) : MulOk i j := mulOk_b (h.mono hk) (m.mono hl)
theorem sgn_pos {x k : Int} (h : 0 < k) : sgn (x * k) = sgn x := by
  unfold sgn
  by_cases h1 : 0 < x
  · rw [if_pos h1, if_pos (Int.mul_pos h1 h)]
  · by_cases h2 : x < 0
    · rw [if_neg h1, if_pos h2, if_neg (by have := Int.mul_neg_of_neg_of_pos h2 h; omega), if_pos (Int.mul_neg_of_neg_of_pos h2 h)]
    · have : x = 0 := by omega
      rw [this, Int.zero_mul]
theorem sgn_int (a b : Int) : (if decide (b < a) = true then (1 : Int) else 0) - (if decide (a < b) = true then 1 else 0) = sgn (a - b) := by
  unfold sgn
  by_cases h1 : b < a
  · rw [decide_eq_true h1, decide_eq_false (by omega : ¬ a < b), if_pos (by omega : 0 < a - b)]
    rfl
  · by_cases h2 : a < b
    · rw [decide_eq_false h1, decide_eq_true h2, if_neg (by omega : ¬ 0 < a - b), if_pos (by omega : a - b < 0)]
      rfl
    · rw [decide_eq_false h1, decide_eq_false h2, if_neg (by omega : ¬ 0 < a - b), if_neg (by omega : ¬ a - b < 0)]
      rfl
theorem sgn_bt (x : Int) : Bt 2 (sgn x) := by
  unfold sgn Bt
  split
  · decide
  · split <;> decide
theorem sgn_p (x : Int) : 0 < sgn x ↔ 0 < x := by
  unfold sgn
  split
  · exact ⟨fun _ => by assumption, fun _ => by decide⟩
  · split
    · exact ⟨fun h => absurd h (by decide), fun h => by omega⟩
    · exact ⟨fun h => absurd h (by decide), fun h => by omega⟩
theorem sgn_n (x : Int) : sgn x < 0 ↔ x < 0 := by
  unfold sgn
  split
  · exact ⟨fun h => absurd h (by decide), fun h => by omega⟩
  · split
    · exact ⟨fun _ => by assumption, fun _ => by decide⟩
    · exact ⟨fun h => absurd h (by decide), fun h => by omega⟩
theorem sgn_z (x : Int) : sgn x = 0 ↔ x = 0 := by
  unfold sgn
  split
  · exact ⟨fun h => absurd h (by decide), fun h => by omega⟩
  · split
    · exact ⟨fun h => absurd h (by decide), fun h => by omega⟩
    · exact ⟨fun _ => by omega, fun _ => rfl⟩
theorem Src.Ok.more {r : Src} {s g : S} (h : r.Ok s) : r.Ok (s ++ g) := by
  unfold PL.Src.Ok at *
  split
  · trivial
  · rename_i n ds e
    rw [e] at h
    exact old_at h
/-- a comprehension, a value for each turn; the store may grow -/
theorem coll_app {r : Src} {g : D → PL.Env → M PL.Env} {t : PL.Env → M Bool} {e : PL.Env → M D} {env0 : PL.Env} {v : D → D} : ∀ {ds : List D} {s : S}, r.Ok s → (∀ d ∈ ds, ∀ s' : S, (∃ g0, s' = s ++ g0) → ∃ g1, ((g d env0 s').on fun env s2 => (t env s2).on fun b s3 => if b = true then e env s3 else .stuck) = .ok (v d) (s' ++ g1)) → ∃ g1, collM r g t e env0 ds s = .ok (ds.map v) (s ++ g1)
  | [], s, ok, h => ⟨[], by
    rw [coll_nil, guard_pos ok, List.append_nil]
    rfl⟩
  | d :: ds, s, ok, h => by
    obtain ⟨g1, h1⟩ := h d List.mem_cons_self s ⟨[], (List.append_nil s).symm⟩
    obtain ⟨g2, h2⟩ := coll_app (ds := ds) (s := s ++ g1) (Src.Ok.more ok) fun x hx s' ⟨g0, e0⟩ => h x (List.mem_cons_of_mem _ hx) s' ⟨g1 ++ g0, by rw [e0, List.append_assoc]⟩
    refine ⟨g1 ++ g2, ?_⟩
    rw [coll_cons, guard_pos ok, on_ok]
    cases eg : g d env0 s with
    | stuck => rw [eg] at h1; cases h1
    | exc c s1 => rw [eg] at h1; cases h1
    | ok env s1 =>
      rw [eg, on_ok] at h1
      rw [on_ok]
      cases et : t env s1 with
      | stuck => rw [et] at h1; cases h1
      | exc c s1 => rw [et] at h1; cases h1
      | ok b s3 =>
        rw [et, on_ok] at h1
        rw [on_ok]
        cases b with
        | false => cases h1
        | true =>
          simp only [if_true] at h1 ⊢
          rw [h1, on_ok, h2, on_ok, List.append_assoc]
          rfl
/-- a loop that returns at the first hit -/
theorem loop_any {r : Src} {gg : D → PL.Env → M PL.Env} {b : PL.Env → M Out} {f : D → Bool} {rv : D} (I : PL.Env → S → Prop) (J : S → Prop) (ok : ∀ env s, I env s → r.Ok s) : ∀ (ds : List D) (env : PL.Env) (s : S), I env s →
    (∀ d ∈ ds, ∀ env s, I env s → ∃ o s', ((gg d env s).on fun e s2 => b e s2) = .ok o s' ∧ ((f d = true ∧ o = .rt rv ∧ J s') ∨ (f d = false ∧ ∃ env', o = .nx env' ∧ I env' s'))) →
    ∃ o s', loopM r gg b ds env s = .ok o s' ∧ ((ds.any f = true ∧ o = .rt rv ∧ J s') ∨ (ds.any f = false ∧ ∃ env', o = .nx env' ∧ I env' s'))
  | [], env, s, h, _ => ⟨.nx env, s, by rw [loop_nil, guard_pos (ok _ _ h)]; rfl, .inr ⟨rfl, env, rfl, h⟩⟩
  | d :: ds, env, s, h, turn => by
    obtain ⟨o, s', e1, c⟩ := turn d List.mem_cons_self env s h
    have e2 : loopM r gg b (d :: ds) env s = (R.ok o s').on (lpK r gg b ds) := by
      rw [loop_cons, guard_pos (ok _ _ h), on_ok]
      cases eg : gg d env s with
      | stuck => rw [eg] at e1; cases e1
      | exc c s1 => rw [eg] at e1; cases e1
      | ok e s1 =>
        rw [eg, on_ok] at e1
        rw [on_ok, e1]
    rcases c with ⟨hf, rfl, hj⟩ | ⟨hf, env', rfl, hi⟩
    · exact ⟨_, s', e2, .inl ⟨by rw [List.any_cons, hf]; rfl, rfl, hj⟩⟩
    · obtain ⟨o2, s2, e3, c3⟩ := loop_any I J ok ds env' s' hi fun x hx => turn x (List.mem_cons_of_mem _ hx)
      exact ⟨o2, s2, e2.trans e3, by rw [List.any_cons, hf, Bool.false_or]; exact c3⟩
theorem all_app {s : S} {bs : List Bool} : allD (.ptr s.length) (s ++ [.lst (bs.map D.bl)]) = .ok (.bl (bs.all id)) (s ++ [.lst (bs.map D.bl)]) := all_new
theorem rng2_run {a b : Int} {s : S} (h : (-4000000000 ≤ a ∧ a ≤ 4000000000) ∧ (-4000000000 ≤ b ∧ b ≤ 4000000000)) : rng2D [.int a, .int b] s = .ok ⟨rngItems a (b - a).toNat, none⟩ s := by
  show (if _ then _ else _ : M Src) s = _
  rw [if_pos h]
  rfl
end PL

/-! RN: mirrors run, lists being values: comprehensions, loops, what is cut back. -/
namespace PL
open PySem PySem.Spec PyProof.Rows L2
/-! ### closed data -/
section
variable {n : Nat}
theorem cl_non : Cl n .non = True := eq_true .non
theorem cl_bl (b : Bool) : Cl n (.bl b) = True := eq_true (.bl b)
theorem cl_int (i : Int) : Cl n (.int i) = True := eq_true (.int i)
theorem cl_str (x : Str) : Cl n (.str x) = True := eq_true (.str x)
theorem cl_tup (ds : List D) : Cl n (.tup ds) = ClL n ds := propext ⟨fun h => by cases h; assumption, .tup⟩
theorem cl_vls (ds : List D) : Cl n (.vls ds) = ClL n ds := propext ⟨fun h => by cases h; assumption, .vls⟩
theorem cl_flst (ds : List D) : Cl n (.flst ds) = ClL n ds := propext ⟨fun h => by cases h; assumption, .flst⟩
theorem cl_ptr (k : Nat) : Cl n (.ptr k) = (k < n) := propext ⟨fun h => by cases h; assumption, .ptr⟩
theorem clL_nil : ClL n [] = True := eq_true .nil
theorem clL_cons (d : D) (ds : List D) : ClL n (d :: ds) = (Cl n d ∧ ClL n ds) := propext ⟨fun h => by cases h; exact ⟨by assumption, by assumption⟩, fun h => .cons h.1 h.2⟩
theorem clL_of : ∀ {ds : List D}, (∀ d ∈ ds, Cl n d) → ClL n ds
  | [], _ => .nil
  | d :: ds, h => .cons (h d List.mem_cons_self) (clL_of fun x hx => h x (List.mem_cons_of_mem _ hx))
theorem clL_map {α : Type} {f : α → D} {l : List α} (h : ∀ a, Cl n (f a) = True) : ClL n (l.map f) = True := eq_true (clL_of fun d hd => by
  obtain ⟨a, _, rfl⟩ := List.mem_map.mp hd
  exact of_eq_true (h a))
theorem clL_int (l : List Int) : ClL n (l.map D.int) = True := clL_map fun _ => cl_int _
theorem clL_pD (l : List (Int × Int)) : ClL n (l.map pD) = True := clL_map fun _ => eq_true (.tup (.cons (.int _) (.cons (.int _) .nil)))
theorem clL_app {a b : List D} : ClL n (a ++ b) = (ClL n a ∧ ClL n b) := propext (by
  induction a with
  | nil => exact ⟨fun h => ⟨.nil, h⟩, fun h => h.2⟩
  | cons d a ih =>
    rw [List.cons_append, clL_cons, clL_cons, and_assoc, ← ih])
theorem cl_pD (p : Int × Int) : Cl n (pD p) = True := eq_true (.tup (.cons (.int _) (.cons (.int _) .nil)))
end
/-! ### what is cut back -/
theorem cut_app {s g : S} : Cut s (s ++ g) := ⟨by rw [List.length_append]; omega, fun i c hi e => .inl (by rw [List.getElem?_append_left hi] at e; exact e)⟩
theorem take_app {s g : S} : (s ++ g).take s.length = s := by rw [List.take_append_of_le_length (Nat.le_refl _), List.take_length]
theorem cutR_ok {s s' s1 : S} {d : D} (hc : Cut s s') (hd : Cl s.length d) (ht : s'.take s.length = s1) : cutR s (.ok d s') = .ok d s1 := by
  unfold cutR
  simp only []
  rw [if_pos hc, if_pos hd, ht]
theorem cutR_vls {s s' s1 : S} {k : Nat} {ds : List D} (hc : Cut s s') (hk : s.length ≤ k) (e : s'[k]? = some (.lst ds)) (hd : ClL s.length ds) (ht : s'.take s.length = s1) : cutR s (.ok (.ptr k) s') = .ok (.vls ds) s1 := by
  unfold cutR
  simp only []
  have h1 : ¬ Cl s.length (.ptr k) := fun h => by
    cases h
    omega
  have h2 : thawD s' (.ptr k) = some ds := by
    unfold thawD
    simp only [e]
  rw [if_pos hc, if_neg h1, h2]
  simp only []
  rw [if_pos hd, ht]
theorem cut_eq {s : S} {d : D} (hd : Cl s.length d) : cutR s (.ok d s) = .ok d s := cutR_ok ⟨Nat.le_refl _, fun i c _ e => .inl e⟩ hd (List.take_length ..)
theorem cut_eqA {s g : S} {d : D} (hd : Cl s.length d) : cutR s (.ok d (s ++ g)) = .ok d s := cutR_ok cut_app hd take_app
theorem cut_lst {s : S} {ds : List D} (hd : ClL s.length ds) : cutR s (.ok (.ptr s.length) (s ++ [.lst ds])) = .ok (.vls ds) s := cutR_vls cut_app (Nat.le_refl _) new_at hd take_app
/-- the first cell written, cells added -/
theorem cut_hd {c c' : Cell} {r g : S} {d : D} (hc : CellCl (r.length + 1) c') (hd : Cl (r.length + 1) d) : cutR (c :: r) (.ok d (c' :: (r ++ g))) = .ok d (c' :: r) := by
  refine cutR_ok ⟨by simp, fun i x hi e => ?_⟩ hd (by simp)
  cases i with
  | zero =>
    simp at e
    subst e
    exact .inr hc
  | succ i =>
    left
    simp at e hi ⊢
    rw [List.getElem?_append_left hi] at e
    exact e
theorem cut_hd0 {c c' : Cell} {r : S} {d : D} (hc : CellCl (r.length + 1) c') (hd : Cl (r.length + 1) d) : cutR (c :: r) (.ok d (c' :: r)) = .ok d (c' :: r) := by
  have := cut_hd (c := c) (g := []) hc hd
  rw [List.append_nil] at this
  exact this
section
variable {m : Env → M Out} {s : S} {mi : Env → M Src} {g : D → Env → M Env} {t : Env → M Bool} {e : Env → M D} {vs : List Nat} {env env0 : Env} {r : Src} {d : D} {ds : List D} {b : Env → M Out}
theorem fnF_run (N : Nat) (ds : List D) : fnF N m ds s = cutR s ((m (startE N ds) s).on fun o s1 => outM o s1) := by
  show cutR s (fnM N m ds s) = _
  rw [fnM_run]
theorem compF_run : compF mi g t e vs env s = (mi env s).on fun r s1 => (szM r.items.length s1).on fun _ s2 => (collM r g t e (wipeE env vs) r.items s2).on fun ys s3 => .ok (.vls ys) s3 := by
  show (mi env >>= _) s = _
  rw [bind_on]
  congr 1
/-- one turn of a comprehension that keeps all -/
def turnC (g : D → Env → M Env) (t : Env → M Bool) (e : Env → M D) (env0 : Env) (d : D) (s : S) : R D := (g d env0 s).on fun env s2 => (t env s2).on fun b s3 => if b = true then e env s3 else .stuck
theorem coll_enc {α : Type} {enc out : α → D} {l : List α} (ok : r.Ok s) (h : ∀ a ∈ l, turnC g t e env0 (enc a) s = .ok (out a) s) : collM r g t e env0 (l.map enc) s = .ok (l.map out) s := by
  induction l with
  | nil =>
    rw [List.map_nil, coll_nil, guard_pos ok]
    rfl
  | cons a l ih =>
    have h1 := h a List.mem_cons_self
    have h2 := ih fun x hx => h x (List.mem_cons_of_mem _ hx)
    unfold turnC at h1
    rw [List.map_cons, coll_cons, guard_pos ok, on_ok]
    cases eg : g (enc a) env0 s with
    | stuck => rw [eg] at h1; cases h1
    | exc c s1 => rw [eg] at h1; cases h1
    | ok env s1 =>
      rw [eg, on_ok] at h1
      rw [on_ok]
      cases et : t env s1 with
      | stuck => rw [et] at h1; cases h1
      | exc c s1 => rw [et] at h1; cases h1
      | ok b s3 =>
        rw [et, on_ok] at h1
        rw [on_ok]
        cases b with
        | false => cases h1
        | true =>
          simp only [if_true] at h1 ⊢
          rw [h1, on_ok, h2]
          rfl
/-- a comprehension over a value -/
theorem compF_enc {α : Type} {enc out : α → D} {l : List α} {ma : Env → M D} {d0 : D} (h0 : ma env s = .ok d0 s) (hs : srcD d0 s = .ok ⟨l.map enc, none⟩ s) (hz : l.length ≤ 100000) (h : ∀ a ∈ l, turnC g t e (wipeE env vs) (enc a) s = .ok (out a) s) :
    compF (srcM ma) g t e vs env s = .ok (.vls (l.map out)) s := by
  rw [compF_run, srcM_run, h0, on_ok, hs, on_ok]
  have : szM (l.map enc).length s = .ok () s := szM_run (by rw [List.length_map]; exact hz)
  simp only []
  rw [this, on_ok, coll_enc (r := ⟨l.map enc, none⟩) trivial h, on_ok]
/-- .. over a cell -/
theorem compF_cell {α : Type} {enc out : α → D} {l : List α} {ma : Env → M D} {k : Nat} (h0 : ma env s = .ok (.ptr k) s) (hs : s[k]? = some (.lst (l.map enc))) (hz : l.length ≤ 100000) (h : ∀ a ∈ l, turnC g t e (wipeE env vs) (enc a) s = .ok (out a) s) :
    compF (srcM ma) g t e vs env s = .ok (.vls (l.map out)) s := by
  rw [compF_run, srcM_run, h0, on_ok, srcD_lst hs, on_ok]
  have : szM (l.map enc).length s = .ok () s := szM_run (by rw [List.length_map]; exact hz)
  simp only []
  rw [this, on_ok, coll_enc (r := ⟨l.map enc, some (k, l.map enc)⟩) hs h, on_ok]
/-- .. over a range -/
theorem compF_rng {out : Nat → D} {ma : Env → M (List D)} {n : Nat} (h0 : ma env s = .ok [.int (n : Int)] s) (hz : n ≤ 100000) (h : ∀ i, i < n → turnC g t e (wipeE env vs) (.int (i : Int)) s = .ok (out i) s) :
    compF (srcA rng1D ma) g t e vs env s = .ok (.vls ((List.range n).map out)) s := by
  rw [compF_run, srcA_run, h0, on_ok, rng1_run (by omega), on_ok]
  have e1 : rngItems 0 (n : Int).toNat = (List.range n).map fun (i : Nat) => D.int (i : Int) := by
    unfold rngItems
    rw [Int.toNat_natCast]
    exact List.map_congr_left fun i _ => by rw [Int.zero_add]
  have : szM (rngItems 0 (n : Int).toNat).length s = .ok () s := szM_run (by rw [rng_len]; omega)
  simp only []
  rw [this, on_ok, e1, coll_enc (r := ⟨_, none⟩) trivial (fun i hi => h i (List.mem_range.mp hi)), on_ok]
/-! ### loops -/
/-- a loop whose turns go on: what is kept is a function of the items -/
theorem loop_fold {α σ : Type} {enc : α → D} {step : σ → α → σ} (St : σ → Env → S → Prop) (ok : ∀ st env s, St st env s → r.Ok s) : ∀ (l : List α) (st : σ) (env : Env) (s : S), St st env s →
    (∀ a ∈ l, ∀ st env s, St st env s → ∃ env' s', ((g (enc a) env s).on fun e s2 => b e s2) = .ok (.nx env') s' ∧ St (step st a) env' s') → ∃ env' s', loopM r g b (l.map enc) env s = .ok (.nx env') s' ∧ St (l.foldl step st) env' s'
  | [], st, env, s, h, _ => ⟨env, s, by rw [List.map_nil, loop_nil, guard_pos (ok _ _ _ h)]; rfl, h⟩
  | a :: l, st, env, s, h, turn => by
    obtain ⟨env1, s1, e1, h1⟩ := turn a List.mem_cons_self st env s h
    obtain ⟨env2, s2, e2, h2⟩ := loop_fold St ok l (step st a) env1 s1 h1 fun x hx => turn x (List.mem_cons_of_mem _ hx)
    refine ⟨env2, s2, ?_, h2⟩
    rw [List.map_cons, loop_cons, guard_pos (ok _ _ _ h), on_ok]
    cases eg : g (enc a) env s with
    | stuck => rw [eg] at e1; cases e1
    | exc c s1 => rw [eg] at e1; cases e1
    | ok e s3 =>
      rw [eg, on_ok] at e1
      rw [on_ok, e1, on_ok]
      exact e2
/-- a fold that may end early -/
def foldE {α σ ε : Type} (f : σ → α → Except ε σ) : σ → List α → Except ε σ
  | st, [] => .ok st
  | st, a :: l => match f st a with
    | .ok st' => foldE f st' l
    | .error d => .error d
/-- a loop whose turns go on or return -/
theorem loop_ret {α σ : Type} {enc : α → D} {step : σ → α → Except D σ} (St : σ → Env → S → Prop) (Rt : D → S → Prop) (ok : ∀ st env s, St st env s → r.Ok s) : ∀ (l : List α) (st : σ) (env : Env) (s : S), St st env s →
    (∀ a ∈ l, ∀ st env s, St st env s → ∃ o s', ((g (enc a) env s).on fun e s2 => b e s2) = .ok o s' ∧ ((∃ st' env', step st a = .ok st' ∧ o = .nx env' ∧ St st' env' s') ∨ (∃ d, step st a = .error d ∧ o = .rt d ∧ Rt d s'))) →
    ∃ o s', loopM r g b (l.map enc) env s = .ok o s' ∧ ((∃ st' env', foldE step st l = .ok st' ∧ o = .nx env' ∧ St st' env' s') ∨ (∃ d, foldE step st l = .error d ∧ o = .rt d ∧ Rt d s'))
  | [], st, env, s, h, _ => ⟨.nx env, s, by rw [List.map_nil, loop_nil, guard_pos (ok _ _ _ h)]; rfl, .inl ⟨st, env, rfl, rfl, h⟩⟩
  | a :: l, st, env, s, h, turn => by
    obtain ⟨o, s1, e1, c⟩ := turn a List.mem_cons_self st env s h
    have e2 : loopM r g b ((a :: l).map enc) env s = (R.ok o s1).on (lpK r g b (l.map enc)) := by
      rw [List.map_cons, loop_cons, guard_pos (ok _ _ _ h), on_ok]
      cases eg : g (enc a) env s with
      | stuck => rw [eg] at e1; cases e1
      | exc c s1 => rw [eg] at e1; cases e1
      | ok e s3 =>
        rw [eg, on_ok] at e1
        rw [on_ok, e1]
    rcases c with ⟨st', env', h1, rfl, h2⟩ | ⟨d, h1, rfl, h2⟩
    · obtain ⟨o2, s2, e3, c3⟩ := loop_ret St Rt ok l st' env' s1 h2 fun x hx => turn x (List.mem_cons_of_mem _ hx)
      refine ⟨o2, s2, e2.trans e3, ?_⟩
      unfold foldE
      rw [h1]
      exact c3
    · refine ⟨.rt d, s1, e2, .inr ⟨d, ?_, rfl, h2⟩⟩
      unfold foldE
      rw [h1]
/-- .. the turns being counted -/
theorem loop_retI {α σ : Type} {enc : α → D} {step : σ → α → Except D σ} (St : Nat → σ → Env → S → Prop) (Rt : D → S → Prop) (ok : ∀ i st env s, St i st env s → r.Ok s) : ∀ (l : List α) (i : Nat) (st : σ) (env : Env) (s : S), St i st env s →
    (∀ j a, l[j]? = some a → ∀ st env s, St (i + j) st env s → ∃ o s', ((g (enc a) env s).on fun e s2 => b e s2) = .ok o s' ∧ ((∃ st' env', step st a = .ok st' ∧ o = .nx env' ∧ St (i + j + 1) st' env' s') ∨ (∃ d, step st a = .error d ∧ o = .rt d ∧ Rt d s'))) →
    ∃ o s', loopM r g b (l.map enc) env s = .ok o s' ∧ ((∃ st' env', foldE step st l = .ok st' ∧ o = .nx env' ∧ St (i + l.length) st' env' s') ∨ (∃ d, foldE step st l = .error d ∧ o = .rt d ∧ Rt d s'))
  | [], i, st, env, s, h, _ => ⟨.nx env, s, by rw [List.map_nil, loop_nil, guard_pos (ok _ _ _ _ h)]; rfl, .inl ⟨st, env, rfl, rfl, h⟩⟩
  | a :: l, i, st, env, s, h, turn => by
    obtain ⟨o, s1, e1, c⟩ := turn 0 a rfl st env s h
    have e2 : loopM r g b ((a :: l).map enc) env s = (R.ok o s1).on (lpK r g b (l.map enc)) := by
      rw [List.map_cons, loop_cons, guard_pos (ok _ _ _ _ h), on_ok]
      cases eg : g (enc a) env s with
      | stuck => rw [eg] at e1; cases e1
      | exc c s1 => rw [eg] at e1; cases e1
      | ok e s3 =>
        rw [eg, on_ok] at e1
        rw [on_ok, e1]
    rcases c with ⟨st', env', h1, rfl, h2⟩ | ⟨d, h1, rfl, h2⟩
    · obtain ⟨o2, s2, e3, c3⟩ := loop_retI St Rt ok l (i + 1) st' env' s1 h2 fun j x hx st env s hst => by
        have := turn (j + 1) x (by simpa using hx) st env s (by rw [show i + (j + 1) = i + 1 + j by omega]; exact hst)
        rw [show i + (j + 1) + 1 = i + 1 + j + 1 by omega] at this
        exact this
      refine ⟨o2, s2, e2.trans e3, ?_⟩
      unfold foldE
      rw [h1, List.length_cons, show i + (l.length + 1) = i + 1 + l.length by omega]
      exact c3
    · refine ⟨.rt d, s1, e2, .inr ⟨d, ?_, rfl, h2⟩⟩
      unfold foldE
      rw [h1]
theorem loop_foldI {α σ : Type} {enc : α → D} {step : σ → α → σ} (St : Nat → σ → Env → S → Prop) (ok : ∀ i st env s, St i st env s → r.Ok s) : ∀ (l : List α) (i : Nat) (st : σ) (env : Env) (s : S), St i st env s →
    (∀ j a, l[j]? = some a → ∀ st env s, St (i + j) st env s → ∃ env' s', ((g (enc a) env s).on fun e s2 => b e s2) = .ok (.nx env') s' ∧ St (i + j + 1) (step st a) env' s') → ∃ env' s', loopM r g b (l.map enc) env s = .ok (.nx env') s' ∧ St (i + l.length) (l.foldl step st) env' s'
  | [], i, st, env, s, h, _ => ⟨env, s, by rw [List.map_nil, loop_nil, guard_pos (ok _ _ _ _ h)]; rfl, h⟩
  | a :: l, i, st, env, s, h, turn => by
    obtain ⟨env1, s1, e1, h1⟩ := turn 0 a rfl st env s h
    obtain ⟨env2, s2, e2, h2⟩ := loop_foldI St ok l (i + 1) (step st a) env1 s1 h1 fun j x hx st env s hst => by
      have := turn (j + 1) x (by simpa using hx) st env s (by rw [show i + (j + 1) = i + 1 + j by omega]; exact hst)
      rw [show i + (j + 1) + 1 = i + 1 + j + 1 by omega] at this
      exact this
    refine ⟨env2, s2, ?_, by rw [List.length_cons, show i + (l.length + 1) = i + 1 + l.length by omega]; exact h2⟩
    rw [List.map_cons, loop_cons, guard_pos (ok _ _ _ _ h), on_ok]
    cases eg : g (enc a) env s with
    | stuck => rw [eg] at e1; cases e1
    | exc c s1 => rw [eg] at e1; cases e1
    | ok e s3 =>
      rw [eg, on_ok] at e1
      rw [on_ok, e1, on_ok]
      exact e2
theorem rng1_nat {n : Nat} (h : n ≤ 1000000) : rng1D [.int (n : Int)] s = .ok ⟨(List.range n).map fun (i : Nat) => D.int (i : Int), none⟩ s := by
  rw [rng1_run (by omega)]
  have e1 : rngItems 0 (n : Int).toNat = (List.range n).map fun (i : Nat) => D.int (i : Int) := by
    unfold rngItems
    rw [Int.toNat_natCast]
    exact List.map_congr_left fun i _ => by rw [Int.zero_add]
  rw [e1]
/-- a while, its turns counted down -/
theorem while_all {c : Env → M Bool} (I : Nat → Env → S → Prop) (Dn : Env → S → Prop)
    (turn : ∀ k env s, I k env s → (∃ s', c env s = .ok false s' ∧ Dn env s') ∨ (∃ s1 env' s' k', c env s = .ok true s1 ∧ b env s1 = .ok (.nx env') s' ∧ k' < k ∧ I k' env' s')) :
    ∀ (k : Nat) (env : Env) (s : S), I k env s → ∃ env' s', whileS c b env s = .ok (.nx env') s' ∧ Dn env' s' := by
  have key : ∀ (k : Nat) (env : Env) (s : S), I k env s → ∃ n env' s', whileN c b n env s = .ok (.nx env') s' ∧ Dn env' s' := by
    intro k
    induction k using Nat.strongRecOn with
    | ind k ih =>
      intro env s h
      rcases turn k env s h with ⟨s', e, hd⟩ | ⟨s1, env', s', k', e1, e2, hk, h'⟩
      · refine ⟨1, env, s', ?_, hd⟩
        unfold whileN
        rw [bind_run, e]
        rfl
      · obtain ⟨n, env2, s2, e3, hd⟩ := ih k' hk env' s' h'
        refine ⟨n + 1, env2, s2, ?_, hd⟩
        unfold whileN
        rw [bind_run, e1]
        simp only [if_true]
        rw [bind_run, e2]
        exact e3
  intro k env s h
  obtain ⟨n, env', s', e, hd⟩ := key k env s h
  exact ⟨env', s', (whileS_eq (by rw [e]; intro z; cases z)).trans e, hd⟩
end
/-! ### lists as values -/
theorem dBls_map : ∀ l : List Bool, dBls (l.map D.bl) = some l
  | [] => rfl
  | b :: l => by
    show (dBls (l.map D.bl)).map (b :: ·) = _
    rw [dBls_map l]
    rfl
section
variable {s : S}
theorem all_vls {bs : List Bool} : allD (.vls (bs.map D.bl)) s = .ok (.bl (bs.all id)) s := by
  show (match dBls (bs.map D.bl) with
      | some bs => R.ok (D.bl (bs.all id)) s
      | none => .stuck) = _
  rw [dBls_map]
theorem any_vls {bs : List Bool} : anyD (.vls (bs.map D.bl)) s = .ok (.bl (bs.any id)) s := by
  show (match dBls (bs.map D.bl) with
      | some bs => R.ok (D.bl (bs.any id)) s
      | none => .stuck) = _
  rw [dBls_map]
theorem all_mapV {α : Type} {l : List α} {f : α → Bool} : allD (.vls (l.map fun a => D.bl (f a))) s = .ok (.bl (l.all f)) s := by
  have := all_vls (s := s) (bs := l.map f)
  rw [List.map_map, List.all_map] at this
  exact this
theorem any_mapV {α : Type} {l : List α} {f : α → Bool} : anyD (.vls (l.map fun a => D.bl (f a))) s = .ok (.bl (l.any f)) s := by
  have := any_vls (s := s) (bs := l.map f)
  rw [List.map_map, List.any_map] at this
  exact this
theorem lenD_vls (ds : List D) : lenD (.vls ds) s = .ok (.int (ds.length : Int)) s := rfl
theorem lenD_flst (ds : List D) : lenD (.flst ds) s = .ok (.int (ds.length : Int)) s := rfl
theorem ixD_vls (ds : List D) (y : D) : ixD (.vls ds) y s = ixS ds y s := rfl
theorem listF_tup (ds : List D) : listF (.tup ds) s = .ok (.vls ds) s := rfl
theorem listF_vls (ds : List D) : listF (.vls ds) s = .ok (.vls ds) s := rfl
theorem listF_flst (ds : List D) : listF (.flst ds) s = .ok (.vls ds) s := rfl
theorem listF_lst {k : Nat} {ds : List D} (e : s[k]? = some (.lst ds)) : listF (.ptr k) s = .ok (.vls ds) s := by
  show (match s[k]? with
    | some (.lst ds) => R.ok (D.vls ds) s
    | _ => .stuck) = _
  rw [e]
theorem tupleD_vls (ds : List D) : tupleD (.vls ds) s = .ok (.tup ds) s := rfl
theorem tupleD_tup (ds : List D) : tupleD (.tup ds) s = .ok (.tup ds) s := rfl
theorem tupleD_lst {k : Nat} {ds : List D} (e : s[k]? = some (.lst ds)) : tupleD (.ptr k) s = .ok (.tup ds) s := by
  show (match s[k]? with
    | some (.lst xs) => R.ok (D.tup xs) s
    | _ => .stuck) = _
  rw [e]
theorem srcD_vls (ds : List D) : srcD (.vls ds) s = .ok ⟨ds, none⟩ s := rfl
theorem lstF_run {ma : Env → M (List D)} {env : Env} : lstF ma env s = (ma env s).on fun ds s1 => if ds.length ≤ 100000 then .ok (.vls ds) s1 else .stuck := by
  show (ma env >>= _) s = _
  rw [bind_on]
  congr 1
  funext ds s1
  split <;> rfl
theorem cat_vls {a b : List D} (hz : a.length + b.length ≤ 100000) : addD (.vls a) (.vls b) s = .ok (.vls (a ++ b)) s := by
  show (if a.length + b.length ≤ 100000 then R.ok (D.vls (a ++ b)) s else .stuck) = _
  rw [if_pos hz]
theorem cat_tup {a b : List D} (hz : a.length + b.length ≤ 100000) : addD (.tup a) (.tup b) s = .ok (.tup (a ++ b)) s := by
  show (if a.length + b.length ≤ 100000 then (Pure.pure (D.tup (a ++ b)) : M D) else stuck) s = _
  rw [if_pos hz]
  rfl
theorem ix_p0 {p : Int × Int} : ixD (pD p) (.int 0) s = .ok (.int p.1) s := by
  unfold pD
  rw [ixD_tup, ixS_int, at0]
  rfl
theorem ix_p1 {p : Int × Int} : ixD (pD p) (.int 1) s = .ok (.int p.2) s := by
  unfold pD
  rw [ixD_tup, ixS_int, at1]
  rfl
theorem ibeq' (a b : Int) : (a == b) = decide (a = b) := by
  rw [Bool.eq_iff_iff]
  simp
theorem eq_pD {p q : Int × Int} : eqD (pD p) (pD q) s = .ok (.bl (decide (p = q))) s := by
  have e : eqD (pD p) (pD q) s = .ok (.bl (PyData.eqv (.tuple [.int p.1, .int p.2]) (.tuple [.int q.1, .int q.2]))) s := rfl
  rw [e]
  have h : PyData.eqv (.tuple [.int p.1, .int p.2]) (.tuple [.int q.1, .int q.2]) = decide (p = q) := by
    show ((p.1 == q.1) && ((p.2 == q.2) && true)) = _
    rw [Bool.and_true, ibeq', ibeq', Bool.eq_iff_iff]
    simp [Prod.ext_iff]
  rw [h]
theorem ne_pD {p q : Int × Int} : neD (pD p) (pD q) s = .ok (.bl (!decide (p = q))) s := by
  rw [neD_run, eq_pD, on_ok]
theorem append_run {k : Nat} {ds : List D} {d : D} {mo : PL.Env → M D} {ma : PL.Env → M (List D)} {env : PL.Env} {s1 : S} {ds0 : List D} (e0 : mo env s = .ok (.ptr k) s) (e : s[k]? = some (.lst ds0)) (e1 : ma env s = .ok [d] s1) (e2 : s1[k]? = some (.lst ds)) (hz : ds.length ≤ 100000) : methM appendD mo ma env s = .ok .non (s1.set k (.lst (ds ++ [d]))) := by
  unfold methM
  rw [bind_on, e0, on_ok, bind_on]
  have h1 : isL (.ptr k) s = .ok () s := by
    show (match s[k]? with
      | some (.lst _) => R.ok () s
      | _ => .stuck) = _
    rw [e]
  rw [h1, on_ok, bind_on, e1, on_ok]
  show (match s1[k]? with
    | some (.lst ds) => (if ds.length ≤ 100000 then putC k (.lst (ds ++ [d])) .non else stuck : M D) s1
    | _ => .stuck) = _
  rw [e2]
  show (if ds.length ≤ 100000 then putC k (.lst (ds ++ [d])) .non else stuck : M D) s1 = _
  rw [if_pos hz]
  rfl
theorem set_new {c c' : Cell} : (s ++ [c]).set s.length c' = s ++ [c'] := by
  rw [List.set_append_right _ _ (Nat.le_refl _), Nat.sub_self]
  rfl
theorem set_at {p : Nat} {c c' : Cell} (h : s[p]? = some c) : (s.set p c')[p]? = some c' := List.getElem?_set_self (List.getElem?_eq_some_iff.mp h).1
theorem lpop_run {k : Nat} {ds : List D} {d : D} (e : s[k]? = some (.lst (ds ++ [d]))) : lpopD (.ptr k) s = .ok d (s.set k (.lst ds)) := by
  unfold lpopD
  simp only [e]
  have e1 : (ds ++ [d])[(ds ++ [d]).length - 1]? = some d := by
    rw [List.length_append, List.length_singleton, Nat.add_sub_cancel, List.getElem?_append_right (Nat.le_refl _), Nat.sub_self]
    rfl
  simp only [e1, List.dropLast_concat]
theorem atI_neg {ds : List D} {j : Nat} {d : D} (h1 : 1 ≤ j) (h2 : j ≤ ds.length) (e : ds[ds.length - j]? = some d) : atI ds (-(j : Int)) = some d := by
  unfold atI L2.ixN
  rw [if_neg (by omega)]
  split
  · rename_i h
    simp only [Option.bind_some]
    rw [show (-(j : Int) + (ds.length : Int)).toNat = ds.length - j by omega]
    exact e
  · omega
/-! ### slices -/
theorem cut_but_last {ds : List D} : cutD ds none (some (-1)) = ds.dropLast := by
  unfold cutD HT.sIx
  simp only []
  rw [if_pos (by decide), List.drop_zero, Nat.sub_zero, List.dropLast_eq_take]
  congr 1
  omega
theorem cut_from {ds : List D} {k : Nat} : cutD ds (some (k : Int)) none = ds.drop k := by
  unfold cutD HT.sIx
  simp only []
  rw [if_neg (by omega), Int.toNat_natCast]
  rcases Nat.le_total k ds.length with h | h
  · rw [Nat.min_eq_left h, List.take_of_length_le (by rw [List.length_drop]; omega)]
  · rw [Nat.min_eq_right h, List.drop_eq_nil_of_le h, List.drop_length, List.take_nil]
theorem cut_to {ds : List D} {k : Nat} : cutD ds none (some (k : Int)) = ds.take k := by
  unfold cutD HT.sIx
  simp only []
  rw [if_neg (by omega), Int.toNat_natCast, List.drop_zero, Nat.sub_zero]
  rcases Nat.le_total k ds.length with h | h
  · rw [Nat.min_eq_left h]
  · rw [Nat.min_eq_right h, List.take_of_length_le h, List.take_of_length_le (Nat.le_refl _)]
theorem cut_from1 {ds : List D} : cutD ds (some 1) none = ds.drop 1 := cut_from (k := 1)
theorem cut_to1 {ds : List D} : cutD ds none (some 1) = ds.take 1 := cut_to (k := 1)
theorem slM_run {ma : PL.Env → M D} {ml mh : PL.Env → M (Option Int)} {env : PL.Env} : slM ma ml mh env s = (ma env s).on fun x s1 => (ml env s1).on fun l s2 => (mh env s2).on fun h s3 => slD x l h s3 := by
  show (ma env >>= _) s = _
  rw [bind_on]
  congr 1
theorem noP_run {env : PL.Env} : noP env s = .ok none s := rfl
def inK (d : D) (s : S) : R (Option Int) := match d with
  | .int i => .ok (some i) s
  | _ => .stuck
theorem inPt_run {m : PL.Env → M D} {env : PL.Env} : inPt m env s = (m env s).on inK := by
  show (m env >>= _) s = _
  rw [bind_on]
  congr 1
  funext d s1
  cases d <;> rfl
theorem inK_int (i : Int) : inK (.int i) s = .ok (some i) s := rfl
theorem slD_tup (ds : List D) (lo hi : Option Int) : slD (.tup ds) lo hi s = .ok (.tup (cutD ds lo hi)) s := rfl
theorem slD_vls (ds : List D) (lo hi : Option Int) : slD (.vls ds) lo hi s = .ok (.vls (cutD ds lo hi)) s := rfl
theorem revD_tup (ds : List D) : revD (.tup ds) s = .ok (.tup ds.reverse) s := rfl
theorem revD_vls (ds : List D) : revD (.vls ds) s = .ok (.vls ds.reverse) s := rfl
/-! ### sets -/
theorem dPl_pD : ∀ ps : List (Int × Int), dPl (ps.map pD) = some ps
  | [] => rfl
  | p :: ps => by
    unfold dPl
    rw [List.map_cons]
    unfold mapO
    have ih := dPl_pD ps
    unfold dPl at ih
    rw [ih]
    rfl
theorem sset_run {d : D} {ps : List (Int × Int)} (e : seqD s d = some (ps.map pD)) (h : ps.length < 64) : ssetD d s = .ok (.vls ((sortU ps).map pD)) s := by
  unfold ssetD
  simp only [e, dPl_pD]
  rw [if_pos h]
/-! ### append, by equations -/
def isLk (s : S) : Option Cell → R Unit
  | some (.lst _) => .ok () s
  | _ => .stuck
def appK (k : Nat) (d : D) (s : S) : Option Cell → R D
  | some (.lst ds) => if ds.length ≤ 100000 then .ok .non (s.set k (.lst (ds ++ [d]))) else .stuck
  | _ => .stuck
theorem methA_run {mo : PL.Env → M D} {ma : PL.Env → M (List D)} {env : PL.Env} : methM appendD mo ma env s = (mo env s).on fun x s1 => (isL x s1).on fun _ s2 => (ma env s2).on fun ds s3 => appendD x ds s3 := by
  show (mo env >>= fun x => isL x >>= fun _ => ma env >>= fun ds => appendD x ds) s = _
  simp only [bind_on]
theorem isL_run {k : Nat} : isL (.ptr k) s = isLk s s[k]? := by
  show (match s[k]? with
    | some (.lst _) => R.ok () s
    | _ => .stuck) = _
  cases s[k]? with
  | none => rfl
  | some c => cases c <;> rfl
theorem isLk_l (ds : List D) : isLk s (some (.lst ds)) = .ok () s := rfl
theorem appD_run {k : Nat} {d : D} : appendD (.ptr k) [d] s = appK k d s s[k]? := by
  show (match s[k]? with
    | some (.lst ds) => (if ds.length ≤ 100000 then putC k (.lst (ds ++ [d])) .non else stuck : M D) s
    | _ => .stuck) = _
  cases s[k]? with
  | none => rfl
  | some c =>
    cases c with
    | lst ds =>
      show (if ds.length ≤ 100000 then putC k (.lst (ds ++ [d])) .non else stuck : M D) s = (if ds.length ≤ 100000 then _ else _)
      split <;> rfl
    | _ => rfl
theorem appK_le {k : Nat} {d : D} {ds : List D} (h : ds.length ≤ 100000) : appK k d s (some (.lst ds)) = .ok .non (s.set k (.lst (ds ++ [d]))) := if_pos h
theorem tupK_0 : tupK [] s = .ok (.tup []) s := rfl
end
end PL

/-! EQN: ==, != and in of data that is written down by a function. -/
namespace PL
open PySem PySem.Spec PyProof.Rows L2
/-- enc writes things down as data; py: as what == looks at -/
structure Enc {α : Type} [DecidableEq α] (enc : α → D) (py : α → PyData) (n : Nat) : Prop where
  to : ∀ (s : S) (k : Nat) (a : α), n < k → toPy s k (enc a) = some (py a)
  lay : ∀ a, (py a).canLay0 = true
  dep : ∀ a, (py a).depth ≤ n
  eqv : ∀ a b, (py a).eqv (py b) = decide (a = b)
section
variable {α β : Type} [DecidableEq α] [DecidableEq β] {enc : α → D} {py : α → PyData} {n : Nat} {enc2 : β → D} {py2 : β → PyData} {m : Nat}
theorem enc_int : Enc D.int PyData.int 0 := ⟨fun s k a h => by
  cases k with
  | zero => omega
  | succ k => rfl, fun a => by rw [PyData.canLay0], fun a => by rw [PyData.depth]; exact Nat.le_refl _, fun a b => by
  rw [PyData.eqv]
  exact ibeq' a b⟩
theorem enc_bl : Enc D.bl PyData.bool 0 := ⟨fun s k a h => by
  cases k with
  | zero => omega
  | succ k => rfl, fun a => by rw [PyData.canLay0], fun a => by rw [PyData.depth]; exact Nat.le_refl _, fun a b => by
  rw [PyData.eqv]
  cases a <;> cases b <;> rfl⟩
theorem mapO_enc (h : Enc enc py n) {s : S} {k : Nat} (hk : n < k) : ∀ l : List α, mapO (toPy s k) (l.map enc) = some (l.map py)
  | [] => rfl
  | a :: l => by
    rw [List.map_cons]
    unfold mapO
    rw [h.to s k a hk, mapO_enc h hk l]
    rfl
theorem lay_enc (h : Enc enc py n) : ∀ l : List α, PyData.canLayAll0 (l.map py) = true
  | [] => by rw [List.map_nil, PyData.canLayAll0]
  | a :: l => by rw [List.map_cons, PyData.canLayAll0, h.lay, lay_enc h l]; rfl
theorem dep_enc (h : Enc enc py n) : ∀ l : List α, PyData.depthAll (l.map py) ≤ n
  | [] => by rw [List.map_nil, PyData.depthAll]; exact Nat.zero_le _
  | a :: l => by
    rw [List.map_cons, PyData.depthAll]
    exact Nat.max_le.mpr ⟨h.dep a, dep_enc h l⟩
theorem eqv_enc (h : Enc enc py n) : ∀ l k : List α, PyData.eqvAll (l.map py) (k.map py) = decide (l = k)
  | [], [] => by rw [List.map_nil, PyData.eqvAll]; rfl
  | [], b :: k => by
    rw [List.map_nil, List.map_cons, PyData.eqvAll]
    exact (decide_eq_false (by simp)).symm
  | a :: l, [] => by
    rw [List.map_nil, List.map_cons]
    rw [PyData.eqvAll.eq_def]
    exact (decide_eq_false (by simp)).symm
  | a :: l, b :: k => by
    rw [List.map_cons, List.map_cons, PyData.eqvAll, h.eqv, eqv_enc h l k, Bool.eq_iff_iff]
    simp
theorem enc_tups (h : Enc enc py n) : Enc (fun l : List α => D.tup (l.map enc)) (fun l => .tuple (l.map py)) (n + 1) := ⟨fun s k l hk => by
  cases k with
  | zero => omega
  | succ k =>
    show (mapO (toPy s k) (l.map enc)).map PyData.tuple = _
    rw [mapO_enc h (by omega)]
    rfl, fun l => by rw [PyData.canLay0]; exact lay_enc h l, fun l => by
  rw [PyData.depth]
  exact Nat.succ_le_succ (dep_enc h l), fun l k => by
  rw [PyData.eqv]
  exact eqv_enc h l k⟩
theorem enc_vls (h : Enc enc py n) : Enc (fun l : List α => D.vls (l.map enc)) (fun l => .list (l.map py)) (n + 1) := ⟨fun s k l hk => by
  cases k with
  | zero => omega
  | succ k =>
    show (mapO (toPy s k) (l.map enc)).map PyData.list = _
    rw [mapO_enc h (by omega)]
    rfl, fun l => by rw [PyData.canLay0]; exact lay_enc h l, fun l => by
  rw [PyData.depth]
  exact Nat.succ_le_succ (dep_enc h l), fun l k => by
  rw [PyData.eqv]
  exact eqv_enc h l k⟩
theorem enc_pair (h : Enc enc py n) (k : Enc enc2 py2 m) : Enc (fun p : α × β => D.tup [enc p.1, enc2 p.2]) (fun p => .tuple [py p.1, py2 p.2]) (max n m + 1) := ⟨fun s j p hj => by
  cases j with
  | zero => omega
  | succ j =>
    show (mapO (toPy s j) [enc p.1, enc2 p.2]).map PyData.tuple = _
    unfold mapO
    rw [h.to s j p.1 (by omega)]
    unfold mapO
    rw [k.to s j p.2 (by omega)]
    rfl, fun p => by
  rw [PyData.canLay0, PyData.canLayAll0, PyData.canLayAll0, PyData.canLayAll0, h.lay, k.lay]
  rfl, fun p => by
  rw [PyData.depth, PyData.depthAll, PyData.depthAll, PyData.depthAll]
  have := h.dep p.1
  have := k.dep p.2
  omega, fun p q => by
  rw [PyData.eqv, PyData.eqvAll, PyData.eqvAll, PyData.eqvAll, h.eqv, k.eqv, Bool.and_true, Bool.eq_iff_iff]
  simp [Prod.ext_iff]⟩
theorem enc_pD : Enc pD (fun p => .tuple [.int p.1, .int p.2]) 1 := enc_pair enc_int enc_int
theorem shaped_enc (h : Enc enc py n) (hn : n ≤ 60) (a : α) : SeqAt.shaped (py a) = true := by
  unfold SeqAt.shaped
  rw [h.lay a, Bool.true_and]
  have := h.dep a
  exact decide_eq_true (by omega)
/-! ### == -/
variable {s : S}
theorem eqD_of {x y : D} {p q : PyData} (h : eqD x y s = match toPy s 12 x, toPy s 12 y with
    | some p, some q => if (SeqAt.shaped p && SeqAt.shaped q) = true then R.ok (.bl (PyData.eqv p q)) s else .stuck
    | _, _ => .stuck) (hx : toPy s 12 x = some p) (hy : toPy s 12 y = some q) (sx : SeqAt.shaped p = true) (sy : SeqAt.shaped q = true) : eqD x y s = .ok (.bl (PyData.eqv p q)) s := by
  rw [h, hx, hy]
  simp only []
  rw [sx, sy]
  rfl
theorem eq_tups (h : Enc enc py n) (hn : n ≤ 10) (l k : List α) : eqD (.tup (l.map enc)) (.tup (k.map enc)) s = .ok (.bl (decide (l = k))) s := by
  have e := enc_tups h
  rw [eqD_of rfl (e.to s 12 l (by omega)) (e.to s 12 k (by omega)) (shaped_enc e (by omega) l) (shaped_enc e (by omega) k), e.eqv]
theorem eq_vls (h : Enc enc py n) (hn : n ≤ 10) (l k : List α) : eqD (.vls (l.map enc)) (.vls (k.map enc)) s = .ok (.bl (decide (l = k))) s := by
  have e := enc_vls h
  rw [eqD_of rfl (e.to s 12 l (by omega)) (e.to s 12 k (by omega)) (shaped_enc e (by omega) l) (shaped_enc e (by omega) k), e.eqv]
theorem toPy_cell {k j : Nat} {ds : List D} (e : s[j]? = some (.lst ds)) : toPy s (k + 1) (.ptr j) = (mapO (toPy s k) ds).map .list := by
  show (match s[j]? with
      | some (.lst ds) => (mapO (toPy s k) ds).map PyData.list
      | _ => none) = _
  rw [e]
theorem eq_cell_vls (h : Enc enc py n) (hn : n ≤ 10) {j : Nat} {l k : List α} (e : s[j]? = some (.lst (l.map enc))) : eqD (.ptr j) (.vls (k.map enc)) s = .ok (.bl (decide (l = k))) s := by
  have e1 := enc_vls h
  have e2 : toPy s 12 (.ptr j) = some (.list (l.map py)) := by
    rw [toPy_cell (k := 11) e, mapO_enc h (by omega)]
    rfl
  rw [eqD_of rfl e2 (e1.to s 12 k (by omega)) (shaped_enc e1 (by omega) l) (shaped_enc e1 (by omega) k), ← e1.eqv]
theorem ne_tups (h : Enc enc py n) (hn : n ≤ 10) (l k : List α) : neD (.tup (l.map enc)) (.tup (k.map enc)) s = .ok (.bl (!decide (l = k))) s := by
  rw [neD_run, eq_tups h hn, on_ok]
theorem ne_vls (h : Enc enc py n) (hn : n ≤ 10) (l k : List α) : neD (.vls (l.map enc)) (.vls (k.map enc)) s = .ok (.bl (!decide (l = k))) s := by
  rw [neD_run, eq_vls h hn, on_ok]
theorem ne_cell_vls (h : Enc enc py n) (hn : n ≤ 10) {j : Nat} {l k : List α} (e : s[j]? = some (.lst (l.map enc))) : neD (.ptr j) (.vls (k.map enc)) s = .ok (.bl (!decide (l = k))) s := by
  rw [neD_run, eq_cell_vls h hn e, on_ok]
/-! ### in -/
theorem any_eqv (h : Enc enc py n) (a : α) : ∀ l : List α, ((l.map py).any fun z => PyData.eqv z (py a)) = decide (a ∈ l)
  | [] => by simp
  | b :: l => by
    rw [List.map_cons, List.any_cons, any_eqv h a l, h.eqv, Bool.eq_iff_iff]
    simp
    constructor
    · rintro (h | h)
      · exact .inl h.symm
      · exact .inr h
    · rintro (h | h)
      · exact .inl h.symm
      · exact .inr h
theorem in_vls (h : Enc enc py n) (hn : n ≤ 10) (a : α) (l : List α) : inD (enc a) (.vls (l.map enc)) s = .ok (.bl (decide (a ∈ l))) s := by
  have e1 := enc_vls h
  show inP s (enc a) (toPy s 13 (.vls (l.map enc))) = _
  unfold inP
  rw [h.to s 12 a (by omega), e1.to s 13 l (by omega)]
  simp only []
  rw [shaped_enc h (by omega), shaped_enc e1 (by omega), any_eqv h]
  rfl
theorem in_cell (h : Enc enc py n) (hn : n ≤ 10) {j : Nat} (a : α) {l : List α} (e : s[j]? = some (.lst (l.map enc))) : inD (enc a) (.ptr j) s = .ok (.bl (decide (a ∈ l))) s := by
  have e1 := enc_vls h
  have e2 : toPy s 13 (.ptr j) = some (.list (l.map py)) := by
    rw [toPy_cell (k := 12) e, mapO_enc h (by omega)]
    rfl
  show (match s[j]? with
    | some (.dK kvs) => (match dKey (enc a) with
      | some k => R.ok (D.bl (valD kvs k).isSome) s
      | none => R.stuck)
    | some (.lst ds) => inP s (enc a) (toPy s 13 (.ptr j))
    | _ => R.stuck) = _
  rw [e]
  simp only []
  unfold inP
  rw [h.to s 12 a (by omega), e2]
  simp only []
  rw [shaped_enc h (by omega), shaped_enc e1 (by omega), any_eqv h]
  rfl
end
end PL

/-! RN2: run equations of dicts with tuple keys, zip, lcm, comprehensions of two parts. -/
namespace PL
open PySem PySem.Spec PyProof.Rows L2
section
variable {s : S} {env : PL.Env}
theorem gTup4 (gs : List D → PL.Env → M PL.Env) (a b c d : D) : gTupM 4 gs (.tup [a, b, c, d]) env s = gs [a, b, c, d] env s := rfl
theorem gTup5 (gs : List D → PL.Env → M PL.Env) (a b c d e : D) : gTupM 5 gs (.tup [a, b, c, d, e]) env s = gs [a, b, c, d, e] env s := rfl
def keyK (ds : List D) (s : S) : R (List L2.Key) := match mapO dKey ds with
  | some ks => if ds.length ≤ 100000 then .ok ks s else .stuck
  | none => .stuck
theorem keyM_run {mr : PL.Env → M (List D)} : keyM mr env s = (mr env s).on keyK := by
  show (mr env >>= _) s = _
  rw [bind_on]
  congr 1
  funext ds s1
  unfold keyK
  cases mapO dKey ds with
  | none => rfl
  | some ks =>
    simp only []
    split <;> rfl
theorem keyK3 (a b c : Int) : keyK [.int a, .int b, .int c] s = .ok [.inl a, .inl b, .inl c] s := rfl
theorem keyK2 (a b : Int) : keyK [.int a, .int b] s = .ok [.inl a, .inl b] s := rfl
theorem tNil_run : tNil env s = .ok [] s := rfl
theorem tCons_run {mk : PL.Env → M (List L2.Key)} {mv : PL.Env → M D} {mr : PL.Env → M (List (List L2.Key × D))} : tCons mk mv mr env s = (mk env s).on fun k s1 => (mv env s1).on fun v s2 => (mr env s2).on fun r s3 => .ok ((k, v) :: r) s3 := by
  show (mk env >>= fun k => mv env >>= fun v => mr env >>= fun r => (Pure.pure ((k, v) :: r) : M (List (List L2.Key × D)))) s = _
  simp only [bind_on]
  rfl
def fillK (n : Nat) (ds : List (List L2.Key × D)) (s : S) : Option Cell → R D
  | some (.dT []) => if ds.length ≤ 15 then .ok (.ptr n) (s.set n (.dT (mergeTD [] ds))) else .stuck
  | _ => .stuck
theorem fillT_run {n : Nat} {ds : List (List L2.Key × D)} : fillT n ds s = fillK n ds s s[n]? := rfl
theorem fillK_le {n : Nat} {ds : List (List L2.Key × D)} (h : ds.length ≤ 15) : fillK n ds s (some (.dT [])) = .ok (.ptr n) (s.set n (.dT (mergeTD [] ds))) := if_pos h
theorem dispTM_run {mr : PL.Env → M (List (List L2.Key × D))} : dispTM mr env s = (mr env (s ++ [.dT []])).on fun ps s2 => fillK s.length ps s2 s2[s.length]? := by
  show (mr env >>= fun ps => fillT s.length ps) (s ++ [.dT []]) = _
  rw [bind_on]
  rfl
def setTK (n : Nat) (k : List L2.Key) (v : D) (s : S) : Option Cell → R Unit
  | some (.dT kvs) => if kvs.length < 100000 then .ok () (s.set n (.dT (putTD kvs k v))) else .stuck
  | _ => .stuck
theorem setTD_run {n : Nat} {k : List L2.Key} {v : D} : setTD (.ptr n) k v s = setTK n k v s s[n]? := by
  show (match s[n]? with
    | some (.dT kvs) => if kvs.length < 100000 then R.ok () (s.set n (.dT (putTD kvs k v))) else .stuck
    | _ => .stuck) = _
  cases s[n]? with
  | none => rfl
  | some c => cases c <;> rfl
theorem setTK_le {n : Nat} {k : List L2.Key} {v : D} {kvs : List (List L2.Key × D)} (h : kvs.length < 100000) : setTK n k v s (some (.dT kvs)) = .ok () (s.set n (.dT (putTD kvs k v))) := if_pos h
theorem gSubT_run {mo : PL.Env → M D} {mk : PL.Env → M (List L2.Key)} {v : D} : gSubT mo mk v env s = (mo env s).on fun o s1 => (mk env s1).on fun k s2 => (setTD o k v s2).on fun _ s3 => .ok env s3 := by
  show (mo env >>= fun o => mk env >>= fun k => setTD o k v >>= fun _ => (Pure.pure env : M PL.Env)) s = _
  simp only [bind_on]
  rfl
def listTK (s : S) : Option Cell → R D
  | some (.dT kvs) => .ok (.vls (kvs.map fun kv => .tup (kv.1.map keyD))) s
  | _ => .stuck
theorem listT_run {n : Nat} : listT (.ptr n) s = listTK s s[n]? := by
  show (match s[n]? with
    | some (.dT kvs) => R.ok (D.vls (kvs.map fun (kv : List L2.Key × D) => D.tup (kv.1.map keyD))) s
    | _ => .stuck) = _
  cases s[n]? with
  | none => rfl
  | some c => cases c <;> rfl
theorem listTK_t (kvs : List (List L2.Key × D)) : listTK s (some (.dT kvs)) = .ok (.vls (kvs.map fun kv => .tup (kv.1.map keyD))) s := rfl
theorem zipD_tt (xs ys : List D) : zipD [.tup xs, .tup ys] s = .ok ⟨zipI xs ys, none⟩ s := rfl
theorem zipD_vv (xs ys : List D) : zipD [.vls xs, .vls ys] s = .ok ⟨zipI xs ys, none⟩ s := rfl
theorem lcm4D_run {a b c d : Int} (ha : Bt 1000 a) (hb : Bt 1000 b) (hc : Bt 1000 c) (hd : Bt 1000 d) : lcm4D [.int a, .int b, .int c, .int d] s = .ok (.int (lcm4 a b c d : Nat)) s := if_pos ⟨ha, hb, hc, hd⟩
theorem coll2_enc {α β : Type} {enc : α → D} {enc2 : β → D} {inn : α → List β} {out : α → β → D} {g g1 : D → PL.Env → M PL.Env} {mi1 : PL.Env → M Src} {e : PL.Env → M D} {vs1 : List Nat} {env0 : PL.Env} {r : Src} (ok : r.Ok s) : ∀ l : List α,
    (∀ a ∈ l, ∃ env2, g (enc a) env0 s = .ok env2 s ∧ mi1 env2 s = .ok ⟨(inn a).map enc2, none⟩ s ∧ (inn a).length ≤ 4000 ∧ ∀ b ∈ inn a, turnC g1 yesT e (wipeE env2 vs1) (enc2 b) s = .ok (out a b) s) →
    coll2M r g yesT mi1 g1 yesT e vs1 env0 (l.map enc) s = .ok (l.flatMap fun a => (inn a).map (out a)) s
  | [], _ => by
    show (guardM r >>= fun _ => (Pure.pure [] : M (List D))) s = _
    rw [bind_on, guard_pos ok]
    rfl
  | a :: l, h => by
    obtain ⟨env2, h1, h2, h3, h4⟩ := h a List.mem_cons_self
    have ih := coll2_enc (r := r) ok l fun x hx => h x (List.mem_cons_of_mem _ hx)
    have hc := coll_enc (r := ⟨(inn a).map enc2, none⟩) (s := s) trivial h4
    show (guardM r >>= fun _ => g (enc a) env0 >>= fun env => yesT env >>= fun b => if b then mi1 env >>= fun r1 => sz4M r1.items.length >>= fun _ => collM r1 g1 yesT e (wipeE env vs1) r1.items >>= fun xs => coll2M r g yesT mi1 g1 yesT e vs1 env0 (l.map enc) >>= fun ys => Pure.pure (xs ++ ys) else coll2M r g yesT mi1 g1 yesT e vs1 env0 (l.map enc)) s = _
    rw [bind_on, guard_pos ok, on_ok, bind_on, h1, on_ok]
    show (mi1 env2 >>= fun r1 => sz4M r1.items.length >>= fun _ => collM r1 g1 yesT e (wipeE env2 vs1) r1.items >>= fun xs => coll2M r g yesT mi1 g1 yesT e vs1 env0 (l.map enc) >>= fun ys => Pure.pure (xs ++ ys)) s = _
    have hz : (sz4M ((inn a).map enc2).length : M Unit) = Pure.pure () := by
      unfold sz4M
      rw [List.length_map, if_pos h3]
    rw [bind_on, h2, on_ok, bind_on, hz]
    show (collM ⟨(inn a).map enc2, none⟩ g1 yesT e (wipeE env2 vs1) ((inn a).map enc2) >>= _) s = _
    rw [bind_on, hc, on_ok, bind_on, ih, on_ok, List.flatMap_cons]
    rfl
theorem comp2F_enc {α β : Type} {enc : α → D} {enc2 : β → D} {inn : α → List β} {out : α → β → D} {l : List α} {mi : PL.Env → M Src} {g g1 : D → PL.Env → M PL.Env} {mi1 : PL.Env → M Src} {e : PL.Env → M D} {vs vs1 : List Nat} {c : Option (Nat × List D)}
    (h0 : mi env s = .ok ⟨l.map enc, c⟩ s) (ok : (⟨l.map enc, c⟩ : Src).Ok s) (hz : l.length ≤ 4000) (h : ∀ a ∈ l, ∃ env2, g (enc a) (wipeE env vs) s = .ok env2 s ∧ mi1 env2 s = .ok ⟨(inn a).map enc2, none⟩ s ∧ (inn a).length ≤ 4000 ∧ ∀ b ∈ inn a, turnC g1 yesT e (wipeE env2 vs1) (enc2 b) s = .ok (out a b) s) :
    comp2F mi g yesT mi1 g1 yesT e vs vs1 env s = .ok (.vls (l.flatMap fun a => (inn a).map (out a))) s := by
  unfold comp2F
  have hz : (sz4M (l.map enc).length : M Unit) = Pure.pure () := by
    unfold sz4M
    rw [List.length_map, if_pos hz]
  rw [bind_on, h0, on_ok, bind_on, hz]
  show (coll2M ⟨l.map enc, c⟩ g yesT mi1 g1 yesT e vs1 (wipeE env vs) (l.map enc) >>= _) s = _
  exact bind_ok (coll2_enc (r := ⟨l.map enc, c⟩) ok l h)
end
end PL

/-! RN3: dicts with keys, instances, walks over locked dicts: how they run. -/
namespace PL
open PySem PySem.Spec PyProof.Rows L2
section
variable {s : S}
/-! ### reading -/
def ixC (y : D) (s : S) : Option Cell → R D
  | some (.lst ds) => ixS ds y s
  | some (.dK kvs) => ixK kvs y s
  | some (.fK kvs) => ixK kvs y s
  | _ => .stuck
theorem ixD_ptr (k : Nat) (y : D) : ixD (.ptr k) y s = ixC y s s[k]? := by
  show (match s[k]? with
    | some (.lst ds) => ixS ds y s
    | some (.dK kvs) => ixK kvs y s
    | some (.fK kvs) => ixK kvs y s
    | _ => .stuck) = _
  unfold ixC
  rfl
theorem ixC_l (y : D) (ds : List D) : ixC y s (some (.lst ds)) = ixS ds y s := rfl
theorem ixC_k (y : D) (kvs : List (L2.Key × D)) : ixC y s (some (.dK kvs)) = ixK kvs y s := rfl
theorem ixC_f (y : D) (kvs : List (L2.Key × D)) : ixC y s (some (.fK kvs)) = ixK kvs y s := rfl
theorem ixK_val {kvs : List (L2.Key × D)} {x : Str} {d : D} (h : valD kvs (.inr x) = some d) : ixK kvs (.str x) s = .ok d s := by
  show (match valD kvs (.inr x) with
    | some d => (Pure.pure d : M D)
    | none => stuck) s = _
  rw [h]
  rfl
def inC (k : L2.Key) (s : S) : Option Cell → R D
  | some (.dK kvs) => .ok (.bl (valD kvs k).isSome) s
  | _ => .stuck
theorem inD_ptrs (x : Str) (k : Nat) (kvs : List (L2.Key × D)) (e : s[k]? = some (.dK kvs)) : inD (.str x) (.ptr k) s = .ok (.bl (valD kvs (.inr x)).isSome) s := by
  show (match s[k]? with
    | some (.dK kvs) => (match dKey (.str x) with
      | some k => R.ok (D.bl (valD kvs k).isSome) s
      | none => .stuck)
    | some (.lst ds) => inP s (.str x) (toPy s 13 (.ptr k))
    | _ => .stuck) = _
  rw [e]
  rfl
def lenC (s : S) : Option Cell → R D
  | some (.lst ds) => .ok (.int ds.length) s
  | some (.dK kvs) => .ok (.int kvs.length) s
  | _ => .stuck
theorem lenD_ptr (k : Nat) : lenD (.ptr k) s = lenC s s[k]? := by
  show (match s[k]? with
    | some (.lst ds) => R.ok (D.int ds.length) s
    | some (.dK kvs) => .ok (.int kvs.length) s
    | _ => .stuck) = _
  unfold lenC
  rfl
theorem lenC_k (kvs : List (L2.Key × D)) : lenC s (some (.dK kvs)) = .ok (.int kvs.length) s := rfl
def dictC (s : S) : Option Cell → R D
  | some (.dK kvs) => .ok (.ptr s.length) (s ++ [.dK kvs])
  | _ => .stuck
theorem dictD_ptr (k : Nat) : dictD (.ptr k) s = dictC s s[k]? := by
  show (match s[k]? with
    | some (.dK kvs) => allocC (.dK kvs) s
    | _ => R.stuck) = _
  unfold dictC
  rfl
theorem dictC_k (kvs : List (L2.Key × D)) : dictC s (some (.dK kvs)) = .ok (.ptr s.length) (s ++ [.dK kvs]) := rfl
/-! ### writing -/
def setC (k : Nat) (i v : D) (s : S) : Option Cell → R Unit
  | some (.lst ds) => putL ds i v k s
  | some (.dK kvs) => (match dKey i with
      | some q => if kvs.length < 100000 then .ok () (s.set k (.dK (putKD kvs q v))) else .stuck
      | none => .stuck)
  | _ => .stuck
theorem setXD_ptr (k : Nat) (i v : D) : setXD (.ptr k) i v s = setC k i v s s[k]? := by
  show (match s[k]? with
    | some (.lst ds) => putL ds i v k s
    | some (.dK kvs) => (match dKey i with
      | some q => if kvs.length < 100000 then R.ok () (s.set k (.dK (putKD kvs q v))) else .stuck
      | none => .stuck)
    | _ => .stuck) = _
  unfold setC
  rfl
theorem setC_k {k : Nat} {x : Str} {v : D} {kvs : List (L2.Key × D)} (h : kvs.length < 100000) : setC k (.str x) v s (some (.dK kvs)) = .ok () (s.set k (.dK (putKD kvs (.inr x) v))) := if_pos h
theorem allocC_run (c : Cell) : allocC c s = .ok (.ptr s.length) (s ++ [c]) := rfl
/-! ### displays -/
theorem pNil_run {env : PL.Env} : pNil env s = .ok [] s := rfl
theorem pCons_run {mk mv : PL.Env → M D} {mr : PL.Env → M (List (D × D))} {env : PL.Env} : pCons mk mv mr env s = (mk env s).on fun k s1 => (mv env s1).on fun v s2 => (mr env s2).on fun r s3 => .ok ((k, v) :: r) s3 := by
  show (mk env >>= fun k => mv env >>= fun v => mr env >>= fun r => (Pure.pure ((k, v) :: r) : M (List (D × D)))) s = _
  simp only [bind_on]
  rfl
def dispK (n : Nat) (ps : List (D × D)) (s : S) : Option Cell → R D
  | some (.dK []) => (match dKeys ps with
    | some kvs => if kvs.length ≤ 15 then .ok (.ptr n) (s.set n (.dK (mergeKD [] kvs))) else .stuck
    | none => .stuck)
  | _ => .stuck
theorem fillC_run (n : Nat) (ps : List (D × D)) : fillC n ps s = dispK n ps s s[n]? := by
  unfold fillC dispK
  cases e : s[n]? with
  | none => simp only [e]
  | some c =>
    cases c with
    | dK kvs =>
      cases kvs with
      | nil => cases h : dKeys ps <;> simp only [e, h]
      | cons a l => cases h : dKeys ps <;> simp only [e, h]
    | lst ds => simp only [e]
    | dT kvs => simp only [e]
    | dN kvs => simp only [e]
    | fN kvs => simp only [e]
    | ins C fs => simp only [e]
    | fK kvs => simp only [e]
theorem dispM_run {mr : PL.Env → M (List (D × D))} {env : PL.Env} : dispM mr env s = (mr env (s ++ [.dK []])).on fun ps s2 => dispK s.length ps s2 s2[s.length]? := by
  show (allocC (.dK []) >>= _) s = _
  rw [bind_on]
  show (mr env >>= fun ps => fillC s.length ps) (s ++ [.dK []]) = _
  rw [bind_on]
  congr 1
  funext ps s2
  exact fillC_run _ _
/-! ### instances -/
def fldK (f C : Str) (s : S) : Option Cell → R D
  | some (.ins C' fs) => if C' = C then (match fs.lookup f with
    | some d => .ok d s
    | none => .stuck) else .stuck
  | _ => .stuck
theorem fldD_ptr {C f : Str} {n : Nat} : fldD C f (.ptr n) s = fldK f C s s[n]? := by
  unfold fldD withI fldK
  simp only []
  all_goals
    cases s[n]? with
    | none => rfl
    | some c =>
      cases c with
      | ins C' fs =>
        by_cases h : C' = C
        · simp only [if_pos h]
          cases fs.lookup f <;> rfl
        · simp only [if_neg h]
      | _ => rfl
theorem fldK_ins {C f : Str} {fs : List (Str × D)} {d : D} (h : fs.lookup f = some d) : fldK f C s (some (.ins C fs)) = .ok d s := by
  show (if C = C then (match fs.lookup f with
    | some d => R.ok d s
    | none => .stuck) else .stuck) = _
  rw [if_pos rfl, h]
theorem fldS_run {C f : Str} {mv mo : PL.Env → M D} {env : PL.Env} : fldS C f mv mo env s = (mv env s).on fun v s1 => (mo env s1).on fun x s2 => (setF C f v x s2).on fun _ s3 => .ok (.nx env) s3 := by
  show (mv env >>= fun v => mo env >>= fun x => setF C f v x >>= fun _ => (Pure.pure (.nx env) : M Out)) s = _
  simp only [bind_on]
  rfl
def setK (f C : Str) (v : D) (n : Nat) (s : S) : Option Cell → R Unit
  | some (.ins C' fs) => if C' = C then (if fs.length < 1000 then .ok () (s.set n (.ins C (putFD f v fs))) else .stuck) else .stuck
  | _ => .stuck
theorem setF_ptr {C f : Str} {v : D} {n : Nat} : setF C f v (.ptr n) s = setK f C v n s s[n]? := by
  unfold setF withI setK
  simp only []
  all_goals
    cases s[n]? with
    | none => rfl
    | some c =>
      cases c with
      | ins C' fs =>
        by_cases h : C' = C
        · simp only [if_pos h]
        · simp only [if_neg h]
      | _ => rfl
theorem setK_ins {C f : Str} {v : D} {n : Nat} {fs : List (Str × D)} (h : fs.length < 1000) : setK f C v n s (some (.ins C fs)) = .ok () (s.set n (.ins C (putFD f v fs))) := by
  show (if C = C then (if fs.length < 1000 then R.ok () (s.set n (.ins C (putFD f v fs))) else .stuck) else .stuck) = _
  rw [if_pos rfl, if_pos h]
def noK (m C : Str) (s : S) : Option Cell → R Unit
  | some (.ins C' fs) => if C' = C then (match fs.lookup m with
    | none => .ok () s
    | some _ => .stuck) else .stuck
  | _ => .stuck
theorem noF_ptr {C m : Str} {n : Nat} : noF C m (.ptr n) s = noK m C s s[n]? := by
  unfold noF withI noK
  simp only []
  all_goals
    cases s[n]? with
    | none => rfl
    | some c =>
      cases c with
      | ins C' fs =>
        by_cases h : C' = C
        · simp only [if_pos h]
          cases e : fs.lookup m with
          | none => simp
          | some d => simp
        · simp only [if_neg h]
      | _ => rfl
theorem noK_ins {C m : Str} {fs : List (Str × D)} (h : fs.lookup m = none) : noK m C s (some (.ins C fs)) = .ok () s := by
  show (if C = C then (match fs.lookup m with
    | none => R.ok () s
    | some _ => .stuck) else .stuck) = _
  rw [if_pos rfl, h]
theorem methI_run {C m : Str} {n : Nat} {F : List D → M D} {mo : PL.Env → M D} {ma : PL.Env → M (List D)} {env : PL.Env} : methI C m n F mo ma env s = (mo env s).on fun x s1 => (noF C m x s1).on fun _ s2 => (ma env s2).on fun ds s3 => lenM n F (x :: ds) s3 := by
  show (mo env >>= fun x => noF C m x >>= fun _ => ma env >>= fun ds => lenM n F (x :: ds)) s = _
  simp only [bind_on]
def mkK (n : Nat) (d : D) (s : S) : R D := match d with
  | .non => .ok (.ptr n) s
  | _ => .stuck
theorem makeI_run {C : Str} {n : Nat} {F : List D → M D} {ma : PL.Env → M (List D)} {env : PL.Env} : makeI C n F ma env s = (ma env s).on fun ds s1 => (lenM n F (.ptr s1.length :: ds) (s1 ++ [.ins C []])).on (mkK s1.length) := by
  show (ma env >>= _) s = _
  rw [bind_on]
  congr 1
  funext ds s1
  show (lenM n F (.ptr s1.length :: ds) >>= fun r => match r with
    | .non => (Pure.pure (D.ptr s1.length) : M D)
    | _ => stuck) (s1 ++ [.ins C []]) = _
  rw [bind_on]
  congr 1
  funext r s2
  cases r <;> rfl
theorem mkK_non (n : Nat) : mkK n .non s = .ok (.ptr n) s := rfl
/-! ### walks over locked dicts -/
theorem srcKM_run {m : PL.Env → M D} {env : PL.Env} : srcKM m env s = (m env s).on fun d s1 => srcK d s1 := by
  show (m env >>= srcK) s = _
  rw [bind_on]
def srcKC (s : S) : Option Cell → R Src
  | some (.fK kvs) => .ok ⟨kvs.map fun kv => keyD kv.1, none⟩ s
  | _ => .stuck
theorem srcK_ptr (k : Nat) : srcK (.ptr k) s = srcKC s s[k]? := by
  unfold srcK srcKC
  simp only []
  all_goals
    cases s[k]? with
    | none => rfl
    | some c => cases c <;> rfl
theorem srcKC_f (kvs : List (L2.Key × D)) : srcKC s (some (.fK kvs)) = .ok ⟨kvs.map fun kv => keyD kv.1, none⟩ s := rfl
def lockK (n : Nat) (m : PL.Env → M Out) (env : PL.Env) (s : S) : Option Cell → R Out
  | some (.dK kvs) => unlD n kvs (m env (s.set n (.fK kvs)))
  | _ => .stuck
theorem lockS_run {me : PL.Env → M D} {m : PL.Env → M Out} {env : PL.Env} {n : Nat} {s1 : S} (h : me env s = .ok (.ptr n) s1) : lockS me m env s = lockK n m env s s[n]? := by
  unfold lockS
  rw [h]
  rfl
theorem lockK_k (n : Nat) (m : PL.Env → M Out) (env : PL.Env) (kvs : List (L2.Key × D)) : lockK n m env s (some (.dK kvs)) = unlD n kvs (m env (s.set n (.fK kvs))) := rfl
theorem unlD_ok (n : Nat) (kvs : List (L2.Key × D)) (o : Out) : unlD n kvs (.ok o s) = .ok o (s.set n (.dK kvs)) := rfl
/-! ### sorted names -/
theorem sortAny_dict {k : Nat} {kvs : List (L2.Key × D)} {ks : List Str} (e : s[k]? = some (.dK kvs)) (h : kStrs kvs = some ks) (hz : ks.length < 64) : sortAnyD (.ptr k) s = .ok (.vls ((sortS ks).map D.str)) s := by
  have e0 : seqD s (.ptr k) = none := by
    unfold seqD
    simp only [e]
  unfold sortAnyD
  rw [e0]
  show (match s[k]? with
    | some (.dK kvs) => (match kStrs kvs with
      | some ks => if ks.length < 64 then R.ok (D.vls ((sortS ks).map D.str)) s else .stuck
      | none => .stuck)
    | _ => .stuck) = _
  rw [e]
  simp only [h]
  rw [if_pos hz]
end
/-! ### a dict by names -/
section
variable {α : Type} {enc : α → D}
def nmK (enc : α → D) (l : List (Str × α)) : List (L2.Key × D) := l.map fun p => (.inr p.1, enc p.2)
theorem nmK_len (l : List (Str × α)) : (nmK enc l).length = l.length := List.length_map ..
theorem nmK_keys (l : List (Str × α)) : (nmK enc l).map (fun kv => keyD kv.1) = l.map fun p => D.str p.1 := by
  unfold nmK
  rw [List.map_map]
  rfl
theorem nmK_strs : ∀ l : List (Str × α), kStrs (nmK enc l) = some (l.map (·.1))
  | [] => rfl
  | p :: l => by
    have ih := nmK_strs l
    unfold kStrs at ih ⊢
    show mapO keyStr ((.inr p.1, enc p.2) :: nmK enc l) = _
    unfold mapO
    simp only [ih]
    rfl
theorem nmK_val_none {x : Str} : ∀ {l : List (Str × α)}, x ∉ l.map (·.1) → valD (nmK enc l) (.inr x) = none
  | [], _ => rfl
  | p :: l, h => by
    have h1 : p.1 ≠ x := fun e => h (by rw [List.map_cons, e]; exact List.mem_cons_self)
    have h2 : x ∉ l.map (·.1) := fun e => h (by rw [List.map_cons]; exact List.mem_cons_of_mem _ e)
    have ih := nmK_val_none h2
    unfold valD nmK at ih ⊢
    rw [List.map_cons, List.find?_cons]
    have : decide ((Sum.inr p.1 : L2.Key) = .inr x) = false := decide_eq_false fun e => h1 (Sum.inr.inj e)
    simp only [this]
    exact ih
theorem nmK_val {x : Str} {a : α} : ∀ {l : List (Str × α)}, (l.map (·.1)).Nodup → (x, a) ∈ l → valD (nmK enc l) (.inr x) = some (enc a)
  | [], _, h => by cases h
  | p :: l, hn, h => by
    rw [List.map_cons] at hn
    have hn := List.nodup_cons.mp hn
    unfold valD nmK
    rw [List.map_cons, List.find?_cons]
    by_cases e : p.1 = x
    · have : decide ((Sum.inr p.1 : L2.Key) = .inr x) = true := decide_eq_true (by rw [e])
      simp only [this]
      rcases List.mem_cons.mp h with h | h
      · rw [← h]
        rfl
      · exact absurd (by rw [e]; exact List.mem_map.mpr ⟨_, h, rfl⟩) hn.1
    · have : decide ((Sum.inr p.1 : L2.Key) = .inr x) = false := decide_eq_false fun z => e (Sum.inr.inj z)
      simp only [this]
      have h : (x, a) ∈ l := by
        rcases List.mem_cons.mp h with h | h
        · exact absurd (by rw [← h]) e
        · exact h
      have ih := nmK_val hn.2 h
      unfold valD nmK at ih
      exact ih
theorem nmK_put {x : Str} {a : α} {l : List (Str × α)} (h : x ∉ l.map (·.1)) : putKD (nmK enc l) (.inr x) (enc a) = nmK enc (l ++ [(x, a)]) := by
  unfold putKD
  have e : ((nmK enc l).any fun kv => decide (kv.1 = .inr x)) = false := by
    rw [List.any_eq_false]
    intro kv hkv
    unfold nmK at hkv
    obtain ⟨p, hp, rfl⟩ := List.mem_map.mp hkv
    simp only [decide_eq_true_eq]
    exact fun z => h (List.mem_map.mpr ⟨p, hp, Sum.inr.inj z⟩)
  rw [e, if_neg (by decide)]
  unfold nmK
  rw [List.map_append]
  rfl
end
end PL

/-! GM1: corners of the plane, turns, what a hull is; the chain that a stack keeps, the wrap that goes round: both give it. -/
namespace GM
abbrev P2 := Int × Int
def area (a b c : P2) : Int := (b.1 - a.1) * (c.2 - a.2) - (b.2 - a.2) * (c.1 - a.1)
def lin (u v : Int) (p : P2) : Int := u * p.1 + v * p.2
def Bw (a p b : Int) : Prop := (a ≤ p ∧ p ≤ b) ∨ (b ≤ p ∧ p ≤ a)
def Seg (p a b : P2) : Prop := area a b p = 0 ∧ Bw a.1 p.1 b.1 ∧ Bw a.2 p.2 b.2
def Edge (pts : List P2) (a b : P2) : Prop := ∀ p ∈ pts, 0 < area a b p ∨ Seg p a b
def Lt (p q : P2) : Prop := p.1 < q.1 ∨ (p.1 = q.1 ∧ p.2 < q.2)

/-! ### signs of products -/
theorem mul_pos' {x y : Int} (h : 0 < x) (k : 0 < y) : 0 < x * y := Int.mul_pos h k
theorem pos_of_mul {f x : Int} (hf : 0 < f) (h : 0 < f * x) : 0 < x := by
  rcases Int.lt_trichotomy x 0 with k | k | k
  · have := Int.mul_nonneg (Int.le_of_lt hf) (show 0 ≤ -x by omega)
    rw [Int.mul_neg] at this
    omega
  · rw [k, Int.mul_zero] at h
    omega
  · exact k
theorem nonneg_of_mul {f x : Int} (hf : 0 < f) (h : 0 ≤ f * x) : 0 ≤ x := by
  rcases Int.lt_trichotomy x 0 with k | k | k
  · have := Int.mul_pos hf (show 0 < -x by omega)
    rw [Int.mul_neg] at this
    omega
  · omega
  · omega
theorem zero_of_mul {f x : Int} (hf : 0 < f) (h : f * x = 0) : x = 0 := by
  rcases Int.mul_eq_zero.mp h with k | k
  · omega
  · exact k

/-! ### turns -/
theorem area_cyc (a b c : P2) : area b c a = area a b c := by
  unfold area
  grind
theorem area_sw (a b c : P2) : area b a c = -area a b c := by
  unfold area
  grind
theorem area_sw2 (a b c : P2) : area a c b = -area a b c := by
  unfold area
  grind
theorem area_aa (a b : P2) : area a b a = 0 := by
  unfold area
  grind
theorem area_ab (a b : P2) : area a b b = 0 := by
  unfold area
  grind
theorem area_00 (a b : P2) : area a a b = 0 := by
  unfold area
  grind
/-- four corners and a line's heights -/
theorem four (u v : Int) (a b c d : P2) : (lin u v c - lin u v b) * area a b d = (lin u v d - lin u v b) * area a b c + (lin u v b - lin u v a) * area b c d := by
  unfold area lin
  grind
theorem four' (u v : Int) (a b c d : P2) : (lin u v b - lin u v a) * area a c d = (lin u v c - lin u v a) * area a b d - (lin u v d - lin u v a) * area a b c := by
  unfold area lin
  grind

section
variable {u v : Int}
theorem on_right {a b c d : P2} (hab : lin u v a < lin u v b) (hbc : lin u v b < lin u v c) (hbd : lin u v b < lin u v d) (h : 0 < area a b c) (k : 0 ≤ area b c d) : 0 < area a b d := by
  have e := four u v a b c d
  have h1 := Int.mul_pos (show 0 < lin u v d - lin u v b by omega) h
  have h2 := Int.mul_nonneg (show 0 ≤ lin u v b - lin u v a by omega) k
  exact pos_of_mul (show 0 < lin u v c - lin u v b by omega) (by omega)
theorem on_left {a b c d : P2} (hab : lin u v a < lin u v b) (hbc : lin u v b < lin u v c) (hdb : lin u v d < lin u v b) (h : 0 < area a b c) (k : 0 ≤ area a b d) : 0 < area b c d := by
  have e := four u v a b c d
  have h1 := Int.mul_pos (show 0 < lin u v b - lin u v d by omega) h
  have h2 := Int.mul_nonneg (show 0 ≤ lin u v c - lin u v b by omega) k
  have e2 : (lin u v b - lin u v d) * area a b c = -((lin u v d - lin u v b) * area a b c) := by
    rw [← Int.neg_mul]
    congr 1
    omega
  exact pos_of_mul (show 0 < lin u v b - lin u v a by omega) (by omega)
theorem on_pop {a b c d : P2} (hab : lin u v a < lin u v b) (hac : lin u v a < lin u v c) (had : lin u v a ≤ lin u v d) (h : area a b c ≤ 0) (k : 0 ≤ area a b d) : 0 ≤ area a c d := by
  have e := four' u v a b c d
  have h1 := Int.mul_nonneg (show 0 ≤ lin u v d - lin u v a by omega) (show 0 ≤ -area a b c by omega)
  have h2 := Int.mul_nonneg (show 0 ≤ lin u v c - lin u v a by omega) k
  rw [Int.mul_neg] at h1
  exact nonneg_of_mul (show 0 < lin u v b - lin u v a by omega) (by omega)

/-! ### the stack, its last corner first -/
def push (c : P2) : List P2 → List P2
  | b :: a :: r => if 0 < area a b c then c :: b :: a :: r else push c (a :: r)
  | st => c :: st
/-- each pair of the stack has all of pre on its left, or between -/
def Sup (u v : Int) (pre : List P2) : List P2 → Prop
  | b :: a :: r => lin u v a < lin u v b ∧ (∀ p ∈ pre, 0 < area a b p ∨ (area a b p = 0 ∧ lin u v a ≤ lin u v p ∧ lin u v p ≤ lin u v b)) ∧ Sup u v pre (a :: r)
  | _ => True
theorem sup_new {pre : List P2} {c : P2} : ∀ {st : List P2} {b a : P2}, (∀ x ∈ b :: a :: st, x ∈ pre) → Sup u v pre (b :: a :: st) → 0 < area a b c → lin u v b < lin u v c → Sup u v (c :: pre) (b :: a :: st)
  | [], b, a, _, h, k, l => ⟨h.1, fun p hp => by
      rcases List.mem_cons.mp hp with rfl | hp
      · exact .inl k
      · exact h.2.1 p hp, trivial⟩
  | z :: st, b, a, hm, ⟨h1, h2, h3⟩, k, l => by
    have hz := h3.1
    have hb := h3.2.1 b (hm b List.mem_cons_self)
    have hb2 : 0 < area z a b := by
      rcases hb with hb | ⟨_, _, hb⟩
      · exact hb
      · omega
    refine ⟨h1, fun p hp => ?_, sup_new (fun x hx => hm x (List.mem_cons_of_mem _ hx)) h3 (on_right hz h1 (by omega) hb2 (Int.le_of_lt k)) (by omega)⟩
    rcases List.mem_cons.mp hp with rfl | hp
    · exact .inl k
    · exact h2 p hp
/-- what a stack is of the corners so far -/
structure Stk (u v : Int) (pre : List P2) (st : List P2) : Prop where
  sub : ∀ x ∈ st, x ∈ pre
  sup : Sup u v pre st
theorem push_ok {pre : List P2} {c : P2} (hc : ∀ p ∈ pre, lin u v p < lin u v c) : ∀ {st : List P2}, Stk u v pre st → (∀ b r, st = b :: r → ∀ p ∈ pre, lin u v b ≤ lin u v p → 0 ≤ area b c p) → (∀ b, st.getLast? = some b → ∀ p ∈ pre, lin u v b ≤ lin u v p) →
    Stk u v (c :: pre) (push c st) ∧ (push c st).head? = some c ∧ (push c st).getLast? = some (st.getLast?.getD c)
  | [], h, _, _ => by
    unfold push
    refine ⟨⟨fun x hx => ?_, trivial⟩, rfl, rfl⟩
    rw [List.mem_singleton.mp hx]
    exact List.mem_cons_self
  | [b], h, hp, hl => by
    have hb := h.sub b List.mem_cons_self
    have hbc := hc b hb
    unfold push
    refine ⟨⟨fun x hx => ?_, hbc, fun p hq => ?_, trivial⟩, rfl, rfl⟩
    · rcases List.mem_cons.mp hx with rfl | hx
      · exact List.mem_cons_self
      · exact List.mem_cons_of_mem _ (h.sub x hx)
    · rcases List.mem_cons.mp hq with rfl | hq
      · exact .inr ⟨area_ab _ _, by omega, by omega⟩
      · have h1 := hp b [] rfl p hq (hl b rfl p hq)
        have h2 := hl b rfl p hq
        have h3 := hc p hq
        by_cases h4 : 0 < area b c p
        · exact .inl h4
        · exact .inr ⟨by omega, by omega, by omega⟩
  | b :: a :: r, h, hp, hl => by
    have hb := h.sub b List.mem_cons_self
    have hbc := hc b hb
    have hab := h.sup.1
    unfold push
    by_cases k : 0 < area a b c
    · rw [if_pos k]
      have hs := sup_new h.sub h.sup k hbc
      refine ⟨⟨fun x hx => ?_, hbc, fun p hq => ?_, hs⟩, rfl, ?_⟩
      · rcases List.mem_cons.mp hx with rfl | hx
        · exact List.mem_cons_self
        · exact List.mem_cons_of_mem _ (h.sub x hx)
      · rcases List.mem_cons.mp hq with rfl | hq
        · exact .inr ⟨area_ab _ _, by omega, by omega⟩
        · have h3 := hc p hq
          by_cases h2 : lin u v b ≤ lin u v p
          · have h1 := hp b _ rfl p hq h2
            by_cases h4 : 0 < area b c p
            · exact .inl h4
            · exact .inr ⟨by omega, by omega, by omega⟩
          · have h1 : 0 ≤ area a b p := by
              rcases h.sup.2.1 p hq with h1 | h1
              · omega
              · omega
            exact .inl (on_left hab hbc (by omega) k h1)
      · show (c :: b :: a :: r).getLast? = some ((b :: a :: r).getLast?.getD c)
        rw [List.getLast?_cons_cons]
        cases e : (b :: a :: r).getLast? with
        | none => simp at e
        | some z => rfl
    · rw [if_neg k]
      have ih := push_ok hc (st := a :: r) ⟨fun x hx => h.sub x (List.mem_cons_of_mem _ hx), h.sup.2.2⟩ (fun b' r' e p hq hf => by
        cases e
        have h1 : 0 ≤ area a b p := by
          rcases h.sup.2.1 p hq with h1 | h1
          · omega
          · omega
        exact on_pop hab (by omega) hf (by omega) h1) (fun b' e p hq => hl b' (by rw [List.getLast?_cons_cons]; exact e) p hq)
      refine ⟨ih.1, ih.2.1, ?_⟩
      rw [ih.2.2, List.getLast?_cons_cons]
/-- all corners in ascending order of f -/
def chainR : List P2 → List P2 → List P2
  | st, [] => st
  | st, c :: r => chainR (push c st) r
theorem chainR_ok : ∀ (l pre st : List P2), (∀ p ∈ pre, ∀ q ∈ l, lin u v p < lin u v q) → l.Pairwise (fun p q => lin u v p < lin u v q) → Stk u v pre st → (∀ b, st.head? = some b → ∀ p ∈ pre, lin u v p < lin u v b ∨ p = b) → (∀ p ∈ pre, ∃ b, st.getLast? = some b ∧ lin u v b ≤ lin u v p) →
    Stk u v (l.reverse ++ pre) (chainR st l) ∧ (chainR st l).head? = (l.getLast?.or st.head?) ∧ (chainR st l).getLast? = (st.getLast?.or l.head?)
  | [], pre, st, _, _, h, _, _ => ⟨h, by simp [chainR], by simp [chainR]⟩
  | c :: l, pre, st, ha, hs, h, hh, hl => by
    have hc : ∀ p ∈ pre, lin u v p < lin u v c := fun p hp => ha p hp c List.mem_cons_self
    have hs1 := List.pairwise_cons.mp hs
    obtain ⟨k1, k2, k3⟩ := push_ok hc h (fun b r e p hp hf => by
      subst e
      rcases hh b rfl p hp with k | k
      · omega
      · subst k
        rw [area_aa]
        omega) (fun b e p hp => by
      obtain ⟨z, h1, h2⟩ := hl p hp
      rw [e] at h1
      cases h1
      exact h2)
    obtain ⟨r1, r2, r3⟩ := chainR_ok l (c :: pre) (push c st) (fun p hp q hq => by
      rcases List.mem_cons.mp hp with rfl | hp
      · exact hs1.1 q hq
      · exact ha p hp q (List.mem_cons_of_mem _ hq)) hs1.2 k1 (fun b e p hp => by
      rw [k2] at e
      cases e
      rcases List.mem_cons.mp hp with rfl | hp
      · exact .inr rfl
      · exact .inl (hc p hp)) (fun p hp => by
      rw [k3]
      rcases List.mem_cons.mp hp with rfl | hp
      · refine ⟨_, rfl, ?_⟩
        cases q : st.getLast? with
        | none => exact Int.le_refl _
        | some z => exact Int.le_of_lt (hc z (h.sub z (List.mem_of_getLast? q)))
      · obtain ⟨b, h1, h2⟩ := hl p hp
        rw [h1]
        exact ⟨b, rfl, h2⟩)
    refine ⟨?_, ?_, ?_⟩
    · rw [List.reverse_cons, List.append_assoc]
      exact r1
    · show (chainR (push c st) l).head? = _
      rw [r2, k2, List.getLast?_cons]
      cases l.getLast? <;> simp
    · show (chainR (push c st) l).getLast? = _
      rw [r3, k3]
      cases st.getLast? <;> simp
end
end GM

/-! GM2: what a hull is; the two chains give it. -/
namespace GM
def Steps (R : P2 → P2 → Prop) : List P2 → Prop
  | a :: b :: r => R a b ∧ Steps R (b :: r)
  | _ => True
theorem Steps.imp {R S : P2 → P2 → Prop} : ∀ {l : List P2}, Steps R l → (∀ a ∈ l, ∀ b ∈ l, R a b → S a b) → Steps S l
  | [], _, _ => trivial
  | [_], _, _ => trivial
  | a :: b :: r, h, k => ⟨k a List.mem_cons_self b (List.mem_cons_of_mem _ List.mem_cons_self) h.1, Steps.imp h.2 fun x hx y hy => k x (List.mem_cons_of_mem _ hx) y (List.mem_cons_of_mem _ hy)⟩
theorem Steps.glue {R : P2 → P2 → Prop} {x : P2} {m : List P2} : ∀ {l : List P2}, Steps R (l ++ [x]) → Steps R (x :: m) → Steps R (l ++ x :: m)
  | [], _, k => k
  | [a], h, k => ⟨h.1, k⟩
  | a :: b :: r, h, k => ⟨h.1, Steps.glue (l := b :: r) h.2 k⟩
theorem Steps.rev {R : P2 → P2 → Prop} : ∀ {l : List P2}, Steps (fun a b => R b a) l → Steps R l.reverse
  | [], _ => trivial
  | [_], _ => trivial
  | a :: b :: r, h => by
    rw [List.reverse_cons, List.reverse_cons, List.append_assoc]
    refine Steps.glue (x := b) (m := [a]) ?_ ⟨h.1, trivial⟩
    have := Steps.rev h.2
    rw [List.reverse_cons] at this
    exact this
theorem Steps.left {R : P2 → P2 → Prop} {m : List P2} : ∀ {l : List P2}, Steps R (l ++ m) → Steps R l
  | [], _ => trivial
  | [_], _ => trivial
  | a :: b :: r, h => ⟨h.1, Steps.left (l := b :: r) h.2⟩
theorem Steps.right {R : P2 → P2 → Prop} {m : List P2} : ∀ {l : List P2}, Steps R (l ++ m) → Steps R m
  | [], h => h
  | [a], h => by
    cases m with
    | nil => trivial
    | cons b r => exact h.2
  | a :: b :: r, h => Steps.right (l := b :: r) h.2

theorem bw_mul {D T d p : Int} (hD : 0 < D) (h0 : 0 ≤ T) (h1 : T ≤ D) (e : D * p = T * d) : (0 ≤ p ∧ p ≤ d) ∨ (d ≤ p ∧ p ≤ 0) := by
  by_cases k : 0 ≤ d
  · left
    have a := Int.mul_nonneg h0 k
    have b := Int.mul_le_mul_of_nonneg_right h1 k
    have c : D * (d - p) = D * d - D * p := Int.mul_sub _ _ _
    exact ⟨nonneg_of_mul hD (by omega), by have := nonneg_of_mul hD (x := d - p) (by omega); omega⟩
  · right
    have k' : 0 ≤ -d := by omega
    have a := Int.mul_nonneg h0 k'
    have b := Int.mul_le_mul_of_nonneg_right h1 k'
    rw [Int.mul_neg] at a b
    rw [Int.mul_neg] at b
    have c : D * (p - d) = D * p - D * d := Int.mul_sub _ _ _
    have c2 : D * (-p) = -(D * p) := Int.mul_neg _ _
    exact ⟨by have := nonneg_of_mul hD (x := p - d) (by omega); omega, by have := nonneg_of_mul hD (x := -p) (by omega); omega⟩
theorem seg_of_f {u v : Int} {a b p : P2} (h : lin u v a < lin u v b) (e : area a b p = 0) (h0 : lin u v a ≤ lin u v p) (h1 : lin u v p ≤ lin u v b) : Seg p a b := by
  have e1 : (lin u v b - lin u v a) * (p.1 - a.1) = (lin u v p - lin u v a) * (b.1 - a.1) := by
    have : (lin u v b - lin u v a) * (p.1 - a.1) = (lin u v p - lin u v a) * (b.1 - a.1) - v * area a b p := by
      unfold area lin
      grind
    rw [this, e]
    omega
  have e2 : (lin u v b - lin u v a) * (p.2 - a.2) = (lin u v p - lin u v a) * (b.2 - a.2) := by
    have : (lin u v b - lin u v a) * (p.2 - a.2) = (lin u v p - lin u v a) * (b.2 - a.2) + u * area a b p := by
      unfold area lin
      grind
    rw [this, e]
    omega
  have b1 := bw_mul (by omega) (by omega) (by omega) e1
  have b2 := bw_mul (by omega) (by omega) (by omega) e2
  unfold Seg Bw
  exact ⟨e, by omega, by omega⟩

/-! ### what a hull is -/
structure IsHull (pts H : List P2) : Prop where
  sub : ∀ h ∈ H, h ∈ pts
  nd : H.Nodup
  least : ∃ a r, H = a :: r ∧ (∀ p ∈ pts, p = a ∨ Lt a p) ∧ Steps (Edge pts) (a :: r ++ [a])

theorem exists_f : ∀ (l : List P2), ∃ B : Int, 0 ≤ B ∧ ∀ p ∈ l, -B ≤ p.2 ∧ p.2 ≤ B
  | [] => ⟨0, Int.le_refl _, fun _ h => by cases h⟩
  | q :: l => by
    obtain ⟨B, h0, h⟩ := exists_f l
    refine ⟨B + q.2.natAbs, by omega, fun p hp => ?_⟩
    rcases List.mem_cons.mp hp with rfl | hp
    · omega
    · have := h p hp
      omega
theorem f_lt {B : Int} {p q : P2} (hB : 0 ≤ B) (hp : -B ≤ p.2 ∧ p.2 ≤ B) (hq : -B ≤ q.2 ∧ q.2 ≤ B) (h : Lt p q) : lin (2 * B + 1) 1 p < lin (2 * B + 1) 1 q := by
  unfold lin
  rcases h with h | ⟨h, k⟩
  · have := Int.mul_le_mul_of_nonneg_left (show p.1 + 1 ≤ q.1 by omega) (show 0 ≤ 2 * B + 1 by omega)
    rw [Int.mul_add] at this
    omega
  · rw [h]
    omega
theorem pw_imp {R S : P2 → P2 → Prop} : ∀ {l : List P2}, l.Pairwise R → (∀ a ∈ l, ∀ b ∈ l, R a b → S a b) → l.Pairwise S
  | [], _, _ => List.Pairwise.nil
  | a :: l, h, k => by
    have h := List.pairwise_cons.mp h
    exact List.pairwise_cons.mpr ⟨fun b hb => k a List.mem_cons_self b (List.mem_cons_of_mem _ hb) (h.1 b hb), pw_imp h.2 fun x hx y hy => k x (List.mem_cons_of_mem _ hx) y (List.mem_cons_of_mem _ hy)⟩

theorem sup_steps {u v : Int} {pre : List P2} : ∀ {st : List P2}, Sup u v pre st → Steps (fun b a => Edge pre a b ∧ lin u v a < lin u v b ∧ ∀ p ∈ pre, area a b p = 0 → lin u v a ≤ lin u v p) st
  | [], _ => trivial
  | [_], _ => trivial
  | b :: a :: r, ⟨h1, h2, h3⟩ => ⟨⟨fun p hp => by
      rcases h2 p hp with k | ⟨k1, k2, k3⟩
      · exact .inl k
      · exact .inr (seg_of_f h1 k1 k2 k3), h1, fun p hp e => by
      rcases h2 p hp with k | ⟨k1, k2, k3⟩
      · omega
      · exact k2⟩, sup_steps h3⟩
theorem sup_desc {u v : Int} {pre : List P2} : ∀ {st : List P2}, Sup u v pre st → st.Pairwise fun b a => lin u v a < lin u v b
  | [], _ => List.Pairwise.nil
  | [_], _ => List.pairwise_cons.mpr ⟨(fun _ h => nomatch h), List.Pairwise.nil⟩
  | b :: a :: r, ⟨h1, h2, h3⟩ => by
    have ih := sup_desc h3
    refine List.pairwise_cons.mpr ⟨fun x hx => ?_, ih⟩
    rcases List.mem_cons.mp hx with rfl | hx
    · exact h1
    · have := (List.pairwise_cons.mp ih).1 x hx
      omega
theorem sup_out {u v : Int} {pre : List P2} : ∀ {st : List P2} {x : P2}, Sup u v pre st → (∀ y ∈ st, y ∈ pre) → x ∈ st.tail → ∃ y ∈ pre, lin u v x < lin u v y ∧ ∀ p ∈ pre, 0 ≤ area x y p ∧ (area x y p = 0 → lin u v x ≤ lin u v p)
  | [], x, _, _, hx => by cases hx
  | [_], x, _, _, hx => by cases hx
  | b :: a :: r, x, ⟨h1, h2, h3⟩, hm, hx => by
    rcases List.mem_cons.mp (show x ∈ a :: r from hx) with rfl | hx
    · refine ⟨b, hm b List.mem_cons_self, h1, fun p hp => ?_⟩
      rcases h2 p hp with k | ⟨k1, k2, k3⟩
      · exact ⟨by omega, fun _ => by omega⟩
      · exact ⟨by omega, fun _ => k2⟩
    · exact sup_out h3 (fun y hy => hm y (List.mem_cons_of_mem _ hy)) (show x ∈ (a :: r).tail from hx)

theorem nodup_rev {l : List P2} (h : l.Nodup) : l.reverse.Nodup := by
  unfold List.Nodup at *
  rw [List.pairwise_reverse]
  exact h.imp fun h e => h e.symm
def chainQ (l : List P2) : List P2 := (chainR [] l).reverse
def hullQ (order : List P2) : List P2 := if order.length = 1 then order else (chainQ order).dropLast ++ (chainQ order.reverse).dropLast
theorem chain_all {u v : Int} {l : List P2} (h : l.Pairwise fun p q => lin u v p < lin u v q) : Stk u v l.reverse (chainR [] l) ∧ (chainR [] l).head? = l.getLast? ∧ (chainR [] l).getLast? = l.head? := by
  have := chainR_ok (u := u) (v := v) l [] [] (fun _ h => by cases h) h ⟨(fun _ h => nomatch h), trivial⟩ (fun _ h => by cases h) (fun _ h => by cases h)
  rw [List.append_nil] at this
  exact ⟨this.1, by rw [this.2.1]; simp, by rw [this.2.2]; simp⟩
theorem lin_neg (u v : Int) (p : P2) : lin (-u) (-v) p = -lin u v p := by
  unfold lin
  grind
theorem Lt.trans {p q r : P2} (h : Lt p q) (k : Lt q r) : Lt p r := by
  unfold Lt at *
  omega
theorem Lt.irr {p : P2} (h : Lt p p) : False := by
  unfold Lt at *
  omega
theorem hullQ_is {order : List P2} (hs : order.Pairwise Lt) (h0 : order ≠ []) : IsHull order (hullQ order) := by
  unfold hullQ
  cases order with
  | nil => exact absurd rfl h0
  | cons a l =>
    by_cases h1 : (a :: l).length = 1
    · rw [if_pos h1]
      have : l = [] := by
        rw [List.length_cons] at h1
        exact List.length_eq_zero_iff.mp (by omega)
      subst this
      refine ⟨fun _ h => h, by simp, ⟨a, [], rfl, fun p hp => .inl (List.mem_singleton.mp hp), ?_⟩⟩
      refine ⟨fun p hp => .inr ?_, trivial⟩
      rw [List.mem_singleton.mp hp]
      unfold Seg Bw
      exact ⟨area_00 _ _, by omega, by omega⟩
    · rw [if_neg h1]
      obtain ⟨B, hB0, hB⟩ := exists_f (a :: l)
      obtain ⟨u, hu⟩ : ∃ u, u = 2 * B + 1 := ⟨_, rfl⟩
      have hf : (a :: l).Pairwise fun p q => lin u 1 p < lin u 1 q := pw_imp hs fun p hp q hq h => by
        rw [hu]
        exact f_lt hB0 (hB p hp) (hB q hq) h
      have hf2 : (a :: l).reverse.Pairwise fun p q => lin (-u) (-1) p < lin (-u) (-1) q := by
        rw [List.pairwise_reverse]
        refine hf.imp fun {p q} h => ?_
        rw [lin_neg, lin_neg]
        omega
      obtain ⟨L, L1, L2⟩ := chain_all hf
      obtain ⟨U, U1, U2⟩ := chain_all hf2
      unfold chainQ
      obtain ⟨sL, eL⟩ : ∃ x, x = chainR [] (a :: l) := ⟨_, rfl⟩
      obtain ⟨sU, eU⟩ : ∃ x, x = chainR [] (a :: l).reverse := ⟨_, rfl⟩
      rw [← eL] at L L1 L2 ⊢
      rw [← eU] at U U1 U2 ⊢
      rw [List.getLast?_reverse] at U1
      rw [List.head?_reverse] at U2
      obtain ⟨z, hz⟩ : ∃ z, (a :: l).getLast? = some z := by
        cases e : (a :: l).getLast? with
        | none => simp at e
        | some z => exact ⟨z, rfl⟩
      rw [hz] at L1 U2
      rw [List.head?_cons] at L2 U1
      have mL : ∀ x, x ∈ (a :: l).reverse ↔ x ∈ a :: l := fun x => List.mem_reverse
      rw [List.dropLast_reverse, List.dropLast_reverse]
      have aL : ∀ x ∈ sL, x ∈ a :: l := fun x hx => (mL x).mp (L.sub x hx)
      have aU : ∀ x ∈ sU, x ∈ a :: l := fun x hx => by
        have := U.sub x hx
        rw [List.reverse_reverse] at this
        exact this
      have haz : a ≠ z := fun e => by
        subst e
        cases l with
        | nil => exact h1 rfl
        | cons b r =>
          rw [List.getLast?_cons_cons] at hz
          have := (List.pairwise_cons.mp hs).1 a (List.mem_of_getLast? hz)
          exact Lt.irr this
      -- sL = z :: .. ++ [a], sU = a :: .. ++ [z]
      obtain ⟨tL, rfl⟩ : ∃ t, sL = z :: t := by
        cases sL with
        | nil => cases L1
        | cons x t => cases L1; exact ⟨t, rfl⟩
      obtain ⟨tU, rfl⟩ : ∃ t, sU = a :: t := by
        cases sU with
        | nil => cases U1
        | cons x t => cases U1; exact ⟨t, rfl⟩
      have lL : tL.getLast? = some a := by
        cases tL with
        | nil =>
          simp at L2
          exact absurd L2.symm haz
        | cons x t => rw [List.getLast?_cons_cons] at L2; exact L2
      have lU : tU.getLast? = some z := by
        cases tU with
        | nil =>
          simp at U2
          exact absurd U2 haz
        | cons x t => rw [List.getLast?_cons_cons] at U2; exact U2
      obtain ⟨rL, rfl⟩ := List.getLast?_eq_some_iff.mp lL
      obtain ⟨rU, rfl⟩ := List.getLast?_eq_some_iff.mp lU
      show IsHull (a :: l) ((rL ++ [a]).reverse ++ (rU ++ [z]).reverse)
      rw [List.reverse_append, List.reverse_append]
      show IsHull (a :: l) (a :: rL.reverse ++ (z :: rU.reverse))
      have dL := sup_desc L.sup
      have dU := sup_desc U.sup
      have nL : (z :: (rL ++ [a])).Nodup := dL.imp fun {x y} h e => by
        subst e
        omega
      have nU : (a :: (rU ++ [z])).Nodup := dU.imp fun {x y} h e => by
        subst e
        omega
      refine ⟨fun x hx => ?_, ?_, ⟨a, rL.reverse ++ z :: rU.reverse, rfl, fun p hp => ?_, ?_⟩⟩
      · rcases List.mem_append.mp hx with hx | hx
        · refine aL x (List.mem_cons_of_mem _ ?_)
          rcases List.mem_cons.mp hx with rfl | hx
          · simp
          · simp at hx
            simp [hx]
        · refine aU x (List.mem_cons_of_mem _ ?_)
          rcases List.mem_cons.mp hx with rfl | hx
          · simp
          · simp at hx
            simp [hx]
      · rw [List.nodup_append]
        refine ⟨?_, ?_, fun x hx y hy e => ?_⟩
        · have := (List.nodup_cons.mp nL).2
          have h2 := nodup_rev this
          rw [List.reverse_append] at h2
          exact h2
        · have := (List.nodup_cons.mp nU).2
          have h2 := nodup_rev this
          rw [List.reverse_append] at h2
          exact h2
        · subst e
          have hx' : x ∈ (z :: (rL ++ [a])).tail := by
            show x ∈ rL ++ [a]
            rcases List.mem_cons.mp hx with rfl | hx
            · simp
            · simp at hx
              simp [hx]
          have hy' : x ∈ (a :: (rU ++ [z])).tail := by
            show x ∈ rU ++ [z]
            rcases List.mem_cons.mp hy with rfl | hy
            · simp
            · simp at hy
              simp [hy]
          obtain ⟨y, y1, y2, y3⟩ := sup_out L.sup L.sub hx'
          obtain ⟨w, w1, w2, w3⟩ := sup_out U.sup U.sub hy'
          rw [lin_neg, lin_neg] at w2
          have q1 := y3 w (by rw [mL]; rw [List.reverse_reverse] at w1; exact w1)
          have q2 := w3 y (by rw [List.reverse_reverse]; exact (mL y).mp y1)
          have q3 := area_sw2 x y w
          have q4 := q1.2 (by omega)
          omega
      · cases List.mem_cons.mp hp with
        | inl h => exact .inl h
        | inr h => exact .inr ((List.pairwise_cons.mp hs).1 p h)
      · have sL := (sup_steps L.sup)
        have sU := (sup_steps U.sup)
        have e1 : Steps (Edge (a :: l)) (z :: (rL ++ [a])).reverse := Steps.rev (sL.imp fun x _ y _ h p hp => h.1 p ((mL p).mpr hp))
        have e2 : Steps (Edge (a :: l)) (a :: (rU ++ [z])).reverse := Steps.rev (sU.imp fun x _ y _ h p hp => h.1 p (by rw [List.reverse_reverse]; exact hp))
        rw [List.reverse_cons, List.reverse_append] at e1 e2
        have g := Steps.glue (l := a :: rL.reverse) (x := z) (m := rU.reverse ++ [a]) (by simpa using e1) (by simpa using e2)
        simpa using g
end GM

/-! GM3: the wrap that goes round from the least corner gives the hull, and nothing else is one. -/
namespace GM
def farP (c now : P2) : Int := (c.1 - now.1) ^ 2 + (c.2 - now.2) ^ 2
def better (now best c : P2) : Bool := !decide (c = now) && (decide (area now best c < 0) || (decide (area now best c = 0) && decide (farP best now < farP c now)))
def bestP (now : P2) (l : List P2) (start : P2) : P2 := l.foldl (fun best c => if better now best c = true then c else best) start
def nth (l : List P2) (k : Nat) : P2 := l.getD k (0, 0)
def nextP (order : List P2) (now : P2) : P2 := bestP now order (if !decide (nth order 0 = now) then nth order 0 else nth order 1)
def wrapP (order : List P2) : Nat → List P2 → List P2
  | 0, found => found
  | n + 1, found => if nextP order (nth found (found.length - 1)) = nth found 0 then found else wrapP order n (found ++ [nextP order (nth found (found.length - 1))])
theorem sq_le {p d : Int} (h : (0 ≤ p ∧ p ≤ d) ∨ (d ≤ p ∧ p ≤ 0)) : p ^ 2 ≤ d ^ 2 ∧ (p ^ 2 = d ^ 2 → p = d) := by
  have e : d ^ 2 - p ^ 2 = (d - p) * (d + p) := by grind
  have n : ∀ x y : Int, x * y = 0 → x = 0 ∨ y = 0 := fun x y h => Int.mul_eq_zero.mp h
  rcases h with ⟨h0, h1⟩ | ⟨h0, h1⟩
  · have := Int.mul_nonneg (show 0 ≤ d - p by omega) (show 0 ≤ d + p by omega)
    refine ⟨by omega, fun q => ?_⟩
    rcases n _ _ (show (d - p) * (d + p) = 0 by omega) with k | k <;> omega
  · have := Int.mul_nonneg (show 0 ≤ p - d by omega) (show 0 ≤ -(d + p) by omega)
    have e2 : (p - d) * (-(d + p)) = (d - p) * (d + p) := by grind
    refine ⟨by omega, fun q => ?_⟩
    rcases n _ _ (show (d - p) * (d + p) = 0 by omega) with k | k <;> omega
theorem far_seg {now q c : P2} (h : Seg c now q) : farP c now ≤ farP q now ∧ (farP c now = farP q now → c = q) := by
  obtain ⟨_, h1, h2⟩ := h
  unfold Bw at h1 h2
  have a1 := sq_le (p := c.1 - now.1) (d := q.1 - now.1) (by omega)
  have a2 := sq_le (p := c.2 - now.2) (d := q.2 - now.2) (by omega)
  unfold farP
  refine ⟨by omega, fun e => ?_⟩
  have e1 := a1.2 (by omega)
  have e2 := a2.2 (by omega)
  exact Prod.ext (by omega) (by omega)
theorem better_no {now q c : P2} (h : 0 < area now q c ∨ Seg c now q) : better now q c = false := by
  unfold better
  rcases h with h | h
  · have h1 : ¬ area now q c < 0 := by omega
    have h2 : ¬ area now q c = 0 := by omega
    simp [h1, h2]
  · have h1 := h.1
    have h2 := (far_seg h).1
    have h3 : ¬ farP q now < farP c now := by omega
    simp [h1, h3]
theorem better_yes {now q b : P2} (h : 0 < area now q b ∨ Seg b now q) (hq : q ≠ now) (hb : b ≠ q) : better now b q = true := by
  unfold better
  have e := area_sw2 now b q
  rcases h with h | h
  · have h1 : area now b q < 0 := by omega
    simp [hq, h1]
  · have h1 : area now b q = 0 := by
      have := h.1
      omega
    have h2 := far_seg h
    have h3 : farP b now < farP q now := by
      have : farP b now ≠ farP q now := fun e => hb (h2.2 e)
      omega
    simp [hq, h1, h3]
theorem best_is {now q : P2} (hq : q ≠ now) : ∀ (l : List P2) (b : P2), Edge l now q → (0 < area now q b ∨ Seg b now q) → (q ∈ l ∨ b = q) → bestP now l b = q
  | [], b, _, _, h => by
    rcases h with h | h
    · cases h
    · exact h
  | c :: l, b, he, hb, h => by
    show bestP now l (if better now b c = true then c else b) = q
    have hc := he c List.mem_cons_self
    have he' : Edge l now q := fun p hp => he p (List.mem_cons_of_mem _ hp)
    by_cases hbq : b = q
    · subst hbq
      rw [better_no hc]
      exact best_is hq l b he' hb (.inr rfl)
    · by_cases hcq : c = q
      · subst hcq
        rw [better_yes hb hq hbq, if_pos rfl]
        exact best_is hq l c he' hc (.inr rfl)
      · have hm : q ∈ l := by
          rcases h with h | h
          · rcases List.mem_cons.mp h with h | h
            · exact absurd h.symm hcq
            · exact h
          · exact absurd h hbq
        refine best_is hq l _ he' ?_ (.inl hm)
        split
        · exact hc
        · exact hb
theorem nth_mem {l : List P2} {k : Nat} (h : k < l.length) : nth l k ∈ l := by
  unfold nth
  rw [List.getD_eq_getElem?_getD, List.getElem?_eq_getElem h]
  exact List.getElem_mem h
theorem next_is {order : List P2} {now q : P2} (h2 : 2 ≤ order.length) (hn : order.Nodup) (hm : q ∈ order) (hq : q ≠ now) (he : Edge order now q) : nextP order now = q := by
  unfold nextP
  refine best_is hq order _ he ?_ (.inl hm)
  split
  · exact he _ (nth_mem (by omega))
  · exact he _ (nth_mem (by omega))
theorem len_le : ∀ {H l : List P2}, H.Nodup → (∀ h ∈ H, h ∈ l) → H.length ≤ l.length
  | [], _, _, _ => Nat.zero_le _
  | a :: H, l, hn, hs => by
    have hn := List.nodup_cons.mp hn
    have ha := hs a List.mem_cons_self
    have := len_le (l := l.erase a) hn.2 fun h hh => (List.mem_erase_of_ne (fun e => hn.1 (by rw [← e]; exact hh))).mpr (hs h (List.mem_cons_of_mem _ hh))
    rw [List.length_erase_of_mem ha] at this
    have := List.length_pos_of_mem ha
    rw [List.length_cons]
    omega
theorem nth_last {A : List P2} {x : P2} : nth (A ++ [x]) ((A ++ [x]).length - 1) = x := by
  unfold nth
  rw [List.length_append, List.length_singleton, Nat.add_sub_cancel, List.getD_eq_getElem?_getD, List.getElem?_append_right (Nat.le_refl _), Nat.sub_self]
  rfl
theorem nth_first {a x : P2} {A : List P2} (h : (A ++ [x]).head? = some a) : nth (A ++ [x]) 0 = a := by
  cases A with
  | nil => cases h; rfl
  | cons b r => cases h; rfl
theorem wrap_is {order : List P2} {a : P2} (h2 : 2 ≤ order.length) (hn : order.Nodup) : ∀ (B A : List P2) (x : P2) (n : Nat), B.length ≤ n → (A ++ [x]).head? = some a → (A ++ x :: B).Nodup → (∀ h ∈ A ++ x :: B, h ∈ order) → Steps (Edge order) (x :: B ++ [a]) → wrapP order n (A ++ [x]) = A ++ x :: B
  | [], A, x, 0, _, _, _, _, _ => rfl
  | [], A, x, n + 1, _, ha, nd, hm, hs => by
    unfold wrapP
    rw [nth_last, nth_first ha]
    have hxa : x ≠ a ∨ A = [] := by
      cases A with
      | nil => exact .inr rfl
      | cons b r =>
        cases ha
        left
        intro e
        subst e
        have := (List.nodup_cons.mp nd).1
        exact this (by simp)
    have hax : a ≠ x := by
      rcases hxa with h | h
      · exact fun e => h e.symm
      · intro e
        subst e
        subst h
        have hall : ∀ p ∈ order, p = a := fun p hp => by
          rcases hs.1 p hp with k | ⟨_, k1, k2⟩
          · rw [area_00] at k
            omega
          · unfold Bw at k1 k2
            exact Prod.ext (by omega) (by omega)
        cases order with
        | nil => simp at h2
        | cons p l =>
          cases l with
          | nil => simp at h2
          | cons q r =>
            have e1 := hall p List.mem_cons_self
            have e2 := hall q (List.mem_cons_of_mem _ List.mem_cons_self)
            exact (List.nodup_cons.mp hn).1 (by rw [e1, e2]; exact List.mem_cons_self)
    have hao : a ∈ order := hm a (by
      cases A with
      | nil => cases ha; exact absurd rfl hax
      | cons b r => cases ha; exact List.mem_cons_self)
    rw [next_is h2 hn hao hax hs.1, if_pos rfl]
  | y :: B, A, x, n, hl, ha, nd, hm, hs => by
    cases n with
    | zero => simp at hl
    | succ n =>
      unfold wrapP
      rw [nth_last, nth_first ha]
      have hyo : y ∈ order := hm y (by simp)
      have hyx : y ≠ x := fun e => by
        subst e
        have := (List.nodup_append.mp nd).2.1
        exact (List.nodup_cons.mp this).1 (by simp)
      have hya : y ≠ a := fun e => by
        cases A with
        | nil => cases ha; exact hyx e
        | cons b r =>
          cases ha
          exact (List.nodup_cons.mp nd).1 (by rw [← e]; simp)
      rw [next_is h2 hn hyo hyx hs.1, if_neg hya]
      have ih := wrap_is h2 hn B (A ++ [x]) y n (by simpa using hl) (by
        cases A with
        | nil => cases ha; rfl
        | cons b r => cases ha; rfl) (by simpa using nd) (by simpa using hm) hs.2
      rw [ih]
      simp
def wrapQ (order : List P2) : List P2 := if order.length = 1 then order else wrapP order order.length [nth order 0]
theorem wrapQ_is {order H : List P2} (hs : order.Pairwise Lt) (h0 : order ≠ []) (h : IsHull order H) : wrapQ order = H := by
  have hn : order.Nodup := hs.imp fun {x y} h e => by
    subst e
    exact Lt.irr h
  obtain ⟨a, r, rfl, ha, hst⟩ := h.least
  have hal := len_le h.nd h.sub
  cases order with
  | nil => exact absurd rfl h0
  | cons b l =>
    have hab : a = b := by
      have h1 := h.sub a List.mem_cons_self
      rcases ha b List.mem_cons_self with e | e
      · exact e.symm
      · rcases List.mem_cons.mp h1 with e2 | e2
        · exact e2
        · exact (Lt.irr (e.trans ((List.pairwise_cons.mp hs).1 a e2))).elim
    subst hab
    unfold wrapQ
    by_cases h1 : (a :: l).length = 1
    · rw [if_pos h1]
      rw [List.length_cons] at h1
      have : l = [] := List.length_eq_zero_iff.mp (by omega)
      subst this
      rw [List.length_cons, List.length_singleton] at hal
      have : r = [] := List.length_eq_zero_iff.mp (by omega)
      rw [this]
    · rw [if_neg h1]
      have h2 : 2 ≤ (a :: l).length := by
        rw [List.length_cons] at h1 ⊢
        omega
      have := wrap_is (a := a) h2 hn r [] a (a :: l).length (by rw [List.length_cons] at hal; omega) rfl h.nd h.sub hst
      exact this
theorem hull_uniq {order H : List P2} (hs : order.Pairwise Lt) (h0 : order ≠ []) (h : IsHull order H) : hullQ order = H := by
  rw [← wrapQ_is hs h0 (hullQ_is hs h0), wrapQ_is hs h0 h]
theorem wrap_hull {order : List P2} (hs : order.Pairwise Lt) (h0 : order ≠ []) : wrapQ order = hullQ order := wrapQ_is hs h0 (hullQ_is hs h0)
end GM

/-! GM4: polygons by their corners' places. -/
namespace GM
theorem steps_get {R : P2 → P2 → Prop} : ∀ {l : List P2} {i : Nat}, Steps R l → i + 1 < l.length → R (nth l i) (nth l (i + 1))
  | [], _, _, h => by simp at h
  | [_], _, _, h => by simp at h
  | a :: b :: r, 0, h, _ => h.1
  | a :: b :: r, i + 1, h, hi => by
    have := steps_get (l := b :: r) (i := i) h.2 (by simpa using hi)
    exact this
theorem nth_app {l m : List P2} {i : Nat} (h : i < l.length) : nth (l ++ m) i = nth l i := by
  unfold nth
  rw [List.getD_eq_getElem?_getD, List.getD_eq_getElem?_getD, List.getElem?_append_left h]
theorem nth_app2 {l : List P2} {a : P2} : nth (l ++ [a]) l.length = a := by
  unfold nth
  rw [List.getD_eq_getElem?_getD, List.getElem?_append_right (Nat.le_refl _), Nat.sub_self]
  rfl
theorem nth_inj {l : List P2} (hn : l.Nodup) {i j : Nat} (hi : i < l.length) (hj : j < l.length) (e : nth l i = nth l j) : i = j := by
  have g : ∀ {k : Nat} (hk : k < l.length), nth l k = l[k] := fun {k} hk => by
    unfold nth
    rw [List.getD_eq_getElem?_getD, List.getElem?_eq_getElem hk]
    rfl
  rw [g hi, g hj] at e
  have pw := List.pairwise_iff_getElem.mp hn
  rcases Nat.lt_trichotomy i j with k | k | k
  · exact absurd e (pw i j hi hj k)
  · exact k
  · exact absurd e.symm (pw j i hj hi k)
theorem mem_nth {l : List P2} {x : P2} (h : x ∈ l) : ∃ i, i < l.length ∧ nth l i = x := by
  obtain ⟨i, hi, e⟩ := List.getElem_of_mem h
  refine ⟨i, hi, ?_⟩
  unfold nth
  rw [List.getD_eq_getElem?_getD, List.getElem?_eq_getElem hi]
  exact e
/-- the corner behind -/
def nxt (H : List P2) (i : Nat) : Nat := if i + 1 = H.length then 0 else i + 1
theorem nxt_lt {H : List P2} {i : Nat} (h : i < H.length) : nxt H i < H.length := by
  unfold nxt
  split <;> omega
theorem IsHull.pos {pts H : List P2} (h : IsHull pts H) : 0 < H.length := by
  obtain ⟨a, r, rfl, _⟩ := h.least
  simp
theorem IsHull.edge {pts H : List P2} (h : IsHull pts H) {i : Nat} (hi : i < H.length) : Edge pts (nth H i) (nth H (nxt H i)) := by
  obtain ⟨a, r, rfl, _, hs⟩ := h.least
  have hs' : Steps (Edge pts) ((a :: r) ++ [a]) := hs
  have := steps_get (i := i) hs' (by simpa using hi)
  rw [nth_app hi] at this
  unfold nxt
  by_cases hl : i + 1 = (a :: r).length
  · rw [if_pos hl]
    rw [hl, nth_app2] at this
    exact this
  · rw [if_neg hl]
    rw [nth_app (by omega)] at this
    exact this
theorem IsHull.sub_pts {pts pts' H : List P2} (h : IsHull pts H) (h1 : ∀ p ∈ pts', p ∈ pts) (h2 : ∀ p ∈ H, p ∈ pts') : IsHull pts' H := by
  obtain ⟨a, r, rfl, hl, hs⟩ := h.least
  exact ⟨h2, h.nd, a, r, rfl, fun p hp => hl p (h1 p hp), hs.imp fun x _ y _ e p hp => e p (h1 p hp)⟩
theorem edge_nonneg {pts : List P2} {a b p : P2} (h : Edge pts a b) (hp : p ∈ pts) : 0 ≤ area a b p := by
  rcases h p hp with h | h
  · omega
  · have := h.1
    omega
/-- a turn at each corner -/
theorem IsHull.strict {pts H : List P2} (h : IsHull pts H) (hm : 3 ≤ H.length) {i : Nat} (hi : i < H.length) : 0 < area (nth H i) (nth H (nxt H i)) (nth H (nxt H (nxt H i))) := by
  have h1 := nxt_lt hi
  have h2 := nxt_lt h1
  have e1 := h.edge hi (nth H (nxt H (nxt H i))) (h.sub _ (nth_mem h2))
  have e2 := h.edge h1 (nth H i) (h.sub _ (nth_mem hi))
  have n1 : nxt H i ≠ i := by
    unfold nxt
    split <;> omega
  have n2 : nxt H (nxt H i) ≠ i := by
    unfold nxt
    split <;> split <;> omega
  have n3 : nxt H (nxt H i) ≠ nxt H i := by
    unfold nxt
    split <;> split <;> omega
  rcases e1 with e1 | e1
  · exact e1
  · rcases e2 with e2 | e2
    · rw [area_cyc] at e2
      have := e1.1
      omega
    · exfalso
      obtain ⟨_, a1, a2⟩ := e1
      obtain ⟨_, b1, b2⟩ := e2
      have : nth H i = nth H (nxt H (nxt H i)) := by
        unfold Bw at a1 a2 b1 b2
        exact Prod.ext (by omega) (by omega)
      exact n2 (nth_inj h.nd hi h2 this).symm
theorem ivt (f : Nat → Int) : ∀ (n a : Nat), 0 ≤ f a → f (a + n + 1) ≤ 0 → ∃ k, a ≤ k ∧ k ≤ a + n ∧ 0 ≤ f k ∧ f (k + 1) ≤ 0
  | 0, a, h, k => ⟨a, Nat.le_refl _, Nat.le_refl _, h, k⟩
  | n + 1, a, h, k => by
    by_cases h1 : f (a + 1) ≤ 0
    · exact ⟨a, Nat.le_refl _, by omega, h, h1⟩
    · obtain ⟨j, j1, j2, j3, j4⟩ := ivt f n (a + 1) (by omega) (by rw [show a + 1 + n + 1 = a + (n + 1) + 1 by omega]; exact k)
      exact ⟨j, by omega, by omega, j3, j4⟩
/-- what is on the left of all sides is in a triangle -/
theorem tri {H : List P2} {p : P2} (hm : 3 ≤ H.length) (hp : ∀ i, i < H.length → 0 ≤ area (nth H i) (nth H (nxt H i)) p) : ∃ k, 1 ≤ k ∧ k + 1 < H.length ∧ 0 ≤ area (nth H 0) (nth H k) p ∧ 0 ≤ area (nth H k) (nth H (k + 1)) p ∧ 0 ≤ area (nth H (k + 1)) (nth H 0) p := by
  have h0 := hp 0 (by omega)
  have hl := hp (H.length - 1) (by omega)
  have e0 : nxt H 0 = 1 := by unfold nxt; rw [if_neg (by omega)]
  have el : nxt H (H.length - 1) = 0 := by unfold nxt; rw [if_pos (by omega)]
  rw [e0] at h0
  rw [el, area_sw] at hl
  obtain ⟨k, k1, k2, k3, k4⟩ := ivt (fun k => area (nth H 0) (nth H k) p) (H.length - 3) 1 h0 (by
    show area (nth H 0) (nth H (1 + (H.length - 3) + 1)) p ≤ 0
    rw [show 1 + (H.length - 3) + 1 = H.length - 1 by omega]
    omega)
  have hk := hp k (by omega)
  have ek : nxt H k = k + 1 := by unfold nxt; rw [if_neg (by omega)]
  rw [ek] at hk
  exact ⟨k, k1, by omega, k3, hk, by rw [area_sw]; have : area (nth H 0) (nth H (k + 1)) p ≤ 0 := k4; omega⟩
theorem seg_sw {p a b : P2} (h : Seg p a b) : Seg p b a := by
  obtain ⟨h1, h2, h3⟩ := h
  refine ⟨by rw [area_sw]; omega, ?_, ?_⟩
  · unfold Bw at *; omega
  · unfold Bw at *; omega
/-- few corners: on the segment -/
theorem IsHull.seg {pts H : List P2} (h : IsHull pts H) (hm : H.length < 3) {p : P2} (hp : p ∈ pts) : Seg p (nth H 0) (nth H (H.length - 1)) := by
  have h0 := h.pos
  have e0 := h.edge h0 p hp
  by_cases h1 : H.length = 1
  · have e : nxt H 0 = 0 := by unfold nxt; rw [if_pos (by omega)]
    rw [e] at e0
    rw [h1]
    rcases e0 with e0 | e0
    · rw [area_00] at e0; omega
    · exact e0
  · have h2 : H.length = 2 := by omega
    have e : nxt H 0 = 1 := by unfold nxt; rw [if_neg (by omega)]
    have e1 := h.edge (i := 1) (by omega) p hp
    have e' : nxt H 1 = 0 := by unfold nxt; rw [if_pos (by omega)]
    rw [e] at e0
    rw [e'] at e1
    rw [h2]
    rcases e0 with e0 | e0
    · rcases e1 with e1 | e1
      · rw [area_sw] at e1; omega
      · exact seg_sw e1
    · exact e0
end GM

/-! GM5: what is in a polygon: by half planes, by triangles; inside; on the sides. -/
namespace GM
abbrev Fn := Int × Int × Int
def cv (f : Fn) (p : P2) : Int := f.1 * p.1 + f.2.1 * p.2 - f.2.2
def side (a b : P2) : Fn := (a.2 - b.2, b.1 - a.1, (a.2 - b.2) * a.1 + (b.1 - a.1) * a.2)
theorem cv_side (a b p : P2) : cv (side a b) p = area a b p := by
  unfold cv side area
  grind
/-- of the least convex set -/
def In (H : List P2) (p : P2) : Prop := ∀ f : Fn, (∀ h ∈ H, 0 ≤ cv f h) → 0 ≤ cv f p
theorem tri_id (f : Fn) (a b c p : P2) : area a b c * cv f p = area b c p * cv f a + area c a p * cv f b + area a b p * cv f c := by
  unfold area cv
  grind
theorem seg_id1 (f : Fn) (a b p : P2) : (b.1 - a.1) * cv f p = (b.1 - p.1) * cv f a + (p.1 - a.1) * cv f b + f.2.1 * area a b p := by
  unfold area cv
  grind
theorem seg_id2 (f : Fn) (a b p : P2) : (b.2 - a.2) * cv f p = (b.2 - p.2) * cv f a + (p.2 - a.2) * cv f b - f.1 * area a b p := by
  unfold area cv
  grind
/-- along a segment: a share of it -/
theorem seg_share {a b p : P2} (h : Seg p a b) : ∃ m n : Int, 0 ≤ m ∧ 0 ≤ n ∧ 0 < m + n ∧ ∀ f : Fn, (m + n) * cv f p = m * cv f a + n * cv f b := by
  obtain ⟨h0, h1, h2⟩ := h
  unfold Bw at h1 h2
  rcases Int.lt_trichotomy a.1 b.1 with k | k | k
  · refine ⟨b.1 - p.1, p.1 - a.1, by omega, by omega, by omega, fun f => ?_⟩
    have := seg_id1 f a b p
    rw [h0, Int.mul_zero, Int.add_zero] at this
    rw [← this]
    congr 1
    omega
  · rcases Int.lt_trichotomy a.2 b.2 with k2 | k2 | k2
    · refine ⟨b.2 - p.2, p.2 - a.2, by omega, by omega, by omega, fun f => ?_⟩
      have := seg_id2 f a b p
      rw [h0, Int.mul_zero, Int.sub_zero] at this
      rw [← this]
      congr 1
      omega
    · refine ⟨1, 0, by omega, by omega, by omega, fun f => ?_⟩
      have : p = a := Prod.ext (by omega) (by omega)
      rw [this]
      omega
    · refine ⟨p.2 - b.2, a.2 - p.2, by omega, by omega, by omega, fun f => ?_⟩
      have := seg_id2 f a b p
      rw [h0, Int.mul_zero, Int.sub_zero] at this
      have e1 : (p.2 - b.2) * cv f a = -((b.2 - p.2) * cv f a) := by rw [← Int.neg_mul]; congr 1; omega
      have e2 : (a.2 - p.2) * cv f b = -((p.2 - a.2) * cv f b) := by rw [← Int.neg_mul]; congr 1; omega
      have e3 : (p.2 - b.2 + (a.2 - p.2)) * cv f p = -((b.2 - a.2) * cv f p) := by rw [← Int.neg_mul]; congr 1; omega
      omega
  · refine ⟨p.1 - b.1, a.1 - p.1, by omega, by omega, by omega, fun f => ?_⟩
    have := seg_id1 f a b p
    rw [h0, Int.mul_zero, Int.add_zero] at this
    have e1 : (p.1 - b.1) * cv f a = -((b.1 - p.1) * cv f a) := by rw [← Int.neg_mul]; congr 1; omega
    have e2 : (a.1 - p.1) * cv f b = -((p.1 - a.1) * cv f b) := by rw [← Int.neg_mul]; congr 1; omega
    have e3 : (p.1 - b.1 + (a.1 - p.1)) * cv f p = -((b.1 - a.1) * cv f p) := by rw [← Int.neg_mul]; congr 1; omega
    omega
theorem seg_nonneg {f : Fn} {a b p : P2} (h : Seg p a b) (ha : 0 ≤ cv f a) (hb : 0 ≤ cv f b) : 0 ≤ cv f p := by
  obtain ⟨m, n, hm, hn, hk, e⟩ := seg_share h
  have e := e f
  have h1 := Int.mul_nonneg hm ha
  have h2 := Int.mul_nonneg hn hb
  exact nonneg_of_mul hk (by omega)
theorem seg_pos {f : Fn} {a b p : P2} (h : Seg p a b) (ha : 0 < cv f a) (hb : 0 < cv f b) : 0 < cv f p := by
  obtain ⟨m, n, hm, hn, hk, e⟩ := seg_share h
  have e := e f
  rcases Int.lt_or_le 0 m with k | k
  · have h1 := Int.mul_pos k ha
    have h2 := Int.mul_nonneg hn (Int.le_of_lt hb)
    exact pos_of_mul hk (by omega)
  · have h1 := Int.mul_nonneg hm (Int.le_of_lt ha)
    have h2 := Int.mul_pos (show 0 < n by omega) hb
    exact pos_of_mul hk (by omega)
theorem in_seg {H : List P2} {a b p : P2} (ha : a ∈ H) (hb : b ∈ H) (h : Seg p a b) : In H p := fun f hf => seg_nonneg h (hf a ha) (hf b hb)
theorem in_tri {H : List P2} {a b c p : P2} (ha : a ∈ H) (hb : b ∈ H) (hc : c ∈ H) (hD : 0 < area a b c) (h1 : 0 ≤ area a b p) (h2 : 0 ≤ area b c p) (h3 : 0 ≤ area c a p) : In H p := fun f hf => by
  have e := tri_id f a b c p
  have k1 := Int.mul_nonneg h2 (hf a ha)
  have k2 := Int.mul_nonneg h3 (hf b hb)
  have k3 := Int.mul_nonneg h1 (hf c hc)
  exact nonneg_of_mul hD (by omega)
theorem in_self {H : List P2} {p : P2} (h : p ∈ H) : In H p := fun f hf => hf p h
theorem In.mono {H K : List P2} {p : P2} (h : In H p) (k : ∀ x ∈ H, In K x) : In K p := fun f hf => h f fun x hx => k x hx f hf
theorem In.x_ge {H : List P2} {p : P2} (h : In H p) {m : Int} (k : ∀ x ∈ H, m ≤ x.1) : m ≤ p.1 := by
  have := h (1, 0, m) fun x hx => by
    have := k x hx
    unfold cv
    simp only []
    omega
  unfold cv at this
  simp only [] at this
  omega
theorem In.x_le {H : List P2} {p : P2} (h : In H p) {m : Int} (k : ∀ x ∈ H, x.1 ≤ m) : p.1 ≤ m := by
  have := h (-1, 0, -m) fun x hx => by
    have := k x hx
    unfold cv
    simp only []
    omega
  unfold cv at this
  simp only [] at this
  omega
theorem In.y_ge {H : List P2} {p : P2} (h : In H p) {m : Int} (k : ∀ x ∈ H, m ≤ x.2) : m ≤ p.2 := by
  have := h (0, 1, m) fun x hx => by
    have := k x hx
    unfold cv
    simp only []
    omega
  unfold cv at this
  simp only [] at this
  omega
theorem In.y_le {H : List P2} {p : P2} (h : In H p) {m : Int} (k : ∀ x ∈ H, x.2 ≤ m) : p.2 ≤ m := by
  have := h (0, -1, -m) fun x hx => by
    have := k x hx
    unfold cv
    simp only []
    omega
  unfold cv at this
  simp only [] at this
  omega
/-! ### polygons -/
/-- the law's test -/
def inP (p : P2) (H : List P2) : Prop := if H.length < 3 then Seg p (nth H 0) (nth H (H.length - 1)) else
  ∃ k, 1 ≤ k ∧ k + 1 < H.length ∧ 0 ≤ area (nth H 0) (nth H k) p ∧ 0 ≤ area (nth H k) (nth H (k + 1)) p ∧ 0 ≤ area (nth H (k + 1)) (nth H 0) p
section
variable {H : List P2}
theorem fan_pos (hH : IsHull H H) {k : Nat} (k1 : 1 ≤ k) (k2 : k + 1 < H.length) : 0 < area (nth H 0) (nth H k) (nth H (k + 1)) := by
  have hk : k < H.length := by omega
  have e := hH.edge hk
  have en : nxt H k = k + 1 := by unfold nxt; rw [if_neg (by omega)]
  rw [en] at e
  have h0 : 0 < H.length := by omega
  rcases e _ (nth_mem h0) with e | e
  · rw [area_cyc] at e
    exact e
  · exfalso
    obtain ⟨a, r, eH, hl, _⟩ := hH.least
    have ea : nth H 0 = a := by rw [eH]; rfl
    have l1 := hl _ (nth_mem hk)
    have l2 := hl _ (nth_mem k2)
    rw [ea] at e
    have n1 : nth H k ≠ a := fun z => by
      have := nth_inj hH.nd hk h0 (z.trans ea.symm)
      omega
    have n2 : nth H (k + 1) ≠ a := fun z => by
      have := nth_inj hH.nd k2 h0 (z.trans ea.symm)
      omega
    obtain ⟨B, hB, hb⟩ := exists_f H
    have ha : a ∈ H := by rw [eH]; exact List.mem_cons_self
    have f1 := f_lt hB (hb _ ha) (hb _ (nth_mem hk)) (l1.resolve_left n1)
    have f2 := f_lt hB (hb _ ha) (hb _ (nth_mem k2)) (l2.resolve_left n2)
    have := seg_pos (f := (2 * B + 1, 1, lin (2 * B + 1) 1 a)) e (by unfold cv; unfold lin at *; simp only []; omega) (by unfold cv; unfold lin at *; simp only []; omega)
    unfold cv lin at this
    simp only [] at this
    omega
theorem inP_In (hH : IsHull H H) {p : P2} (h : inP p H) : In H p := by
  have h0 := hH.pos
  unfold inP at h
  split at h
  · exact in_seg (nth_mem h0) (nth_mem (by omega)) h
  · obtain ⟨k, k1, k2, t1, t2, t3⟩ := h
    exact in_tri (nth_mem h0) (nth_mem (by omega)) (nth_mem k2) (fan_pos hH k1 k2) t1 t2 t3
theorem In.edge (hH : IsHull H H) {p : P2} (h : In H p) {i : Nat} (hi : i < H.length) : 0 ≤ area (nth H i) (nth H (nxt H i)) p := by
  have := h (side (nth H i) (nth H (nxt H i))) fun x hx => by
    rw [cv_side]
    exact edge_nonneg (hH.edge hi) hx
  rw [cv_side] at this
  exact this
theorem mem1 (h1 : H.length = 1) {x : P2} (hx : x ∈ H) : x = nth H 0 := by
  obtain ⟨i, hi, e⟩ := mem_nth hx
  have : i = 0 := by omega
  rw [← e, this]
theorem mem2 (h2 : H.length = 2) {x : P2} (hx : x ∈ H) : x = nth H 0 ∨ x = nth H 1 := by
  obtain ⟨i, hi, e⟩ := mem_nth hx
  rcases (by omega : i = 0 ∨ i = 1) with z | z
  · left; rw [← e, z]
  · right; rw [← e, z]
theorem in_of (hH : IsHull H H) {p : P2} (x1 : ∃ h ∈ H, h.1 ≤ p.1) (x2 : ∃ h ∈ H, p.1 ≤ h.1) (y1 : ∃ h ∈ H, h.2 ≤ p.2) (y2 : ∃ h ∈ H, p.2 ≤ h.2) (he : ∀ i, i < H.length → 0 ≤ area (nth H i) (nth H (nxt H i)) p) : inP p H := by
  have h0 := hH.pos
  unfold inP
  by_cases hm : H.length < 3
  · rw [if_pos hm]
    obtain ⟨a1, m1, k1⟩ := x1
    obtain ⟨a2, m2, k2⟩ := x2
    obtain ⟨a3, m3, k3⟩ := y1
    obtain ⟨a4, m4, k4⟩ := y2
    by_cases h1 : H.length = 1
    · rw [mem1 h1 m1] at k1
      rw [mem1 h1 m2] at k2
      rw [mem1 h1 m3] at k3
      rw [mem1 h1 m4] at k4
      rw [h1]
      have : p = nth H 0 := Prod.ext (by omega) (by omega)
      show Seg p (nth H 0) (nth H 0)
      rw [this]
      exact ⟨area_00 _ _, .inl ⟨Int.le_refl _, Int.le_refl _⟩, .inl ⟨Int.le_refl _, Int.le_refl _⟩⟩
    · have h2 : H.length = 2 := by omega
      have e0 := he 0 (by omega)
      have e1 := he 1 (by omega)
      have n0 : nxt H 0 = 1 := by unfold nxt; rw [if_neg (by omega)]
      have n1 : nxt H 1 = 0 := by unfold nxt; rw [if_pos (by omega)]
      rw [n0] at e0
      rw [n1, area_sw] at e1
      rw [h2]
      show Seg p (nth H 0) (nth H 1)
      refine ⟨by omega, ?_, ?_⟩
      · unfold Bw
        rcases mem2 h2 m1 with z | z <;> rcases mem2 h2 m2 with w | w <;> rw [z] at k1 <;> rw [w] at k2 <;> omega
      · unfold Bw
        rcases mem2 h2 m3 with z | z <;> rcases mem2 h2 m4 with w | w <;> rw [z] at k3 <;> rw [w] at k4 <;> omega
  · rw [if_neg hm]
    exact tri (by omega) he
/-- some corner is least for a functional -/
theorem least_f (f : Fn) : ∀ {l : List P2}, 0 < l.length → ∃ x ∈ l, ∀ y ∈ l, cv f x ≤ cv f y
  | [a], _ => ⟨a, List.mem_cons_self, fun y hy => by rw [List.mem_singleton.mp hy]; exact Int.le_refl _⟩
  | a :: b :: l, _ => by
    obtain ⟨x, hx, h⟩ := least_f f (l := b :: l) (by simp)
    by_cases k : cv f a ≤ cv f x
    · refine ⟨a, List.mem_cons_self, fun y hy => ?_⟩
      rcases List.mem_cons.mp hy with rfl | hy
      · exact Int.le_refl _
      · exact Int.le_trans k (h y hy)
    · refine ⟨x, List.mem_cons_of_mem _ hx, fun y hy => ?_⟩
      rcases List.mem_cons.mp hy with rfl | hy
      · omega
      · exact h y hy
theorem In_inP (hH : IsHull H H) {p : P2} (h : In H p) : inP p H := by
  have h0 := hH.pos
  refine in_of hH ?_ ?_ ?_ ?_ fun i hi => h.edge hH hi
  · obtain ⟨x, hx, k⟩ := least_f (1, 0, 0) h0
    exact ⟨x, hx, h.x_ge fun y hy => by have := k y hy; unfold cv at this; simp only [] at this; omega⟩
  · obtain ⟨x, hx, k⟩ := least_f (-1, 0, 0) h0
    exact ⟨x, hx, h.x_le fun y hy => by have := k y hy; unfold cv at this; simp only [] at this; omega⟩
  · obtain ⟨x, hx, k⟩ := least_f (0, 1, 0) h0
    exact ⟨x, hx, h.y_ge fun y hy => by have := k y hy; unfold cv at this; simp only [] at this; omega⟩
  · obtain ⟨x, hx, k⟩ := least_f (0, -1, 0) h0
    exact ⟨x, hx, h.y_le fun y hy => by have := k y hy; unfold cv at this; simp only [] at this; omega⟩
theorem inP_iff (hH : IsHull H H) {p : P2} : inP p H ↔ In H p := ⟨inP_In hH, In_inP hH⟩
/-! ### inside -/
def Str (H : List P2) (p : P2) : Prop := 3 ≤ H.length ∧ ∀ i, i < H.length → 0 < area (nth H i) (nth H (nxt H i)) p
theorem Str.in (hH : IsHull H H) {p : P2} (h : Str H p) : In H p := by
  refine inP_In hH ?_
  unfold inP
  rw [if_neg (by have := h.1; omega)]
  exact tri h.1 fun i hi => Int.le_of_lt (h.2 i hi)
/-- the corner ahead -/
theorem prev_of {i : Nat} (hi : i < H.length) : ∃ j, j < H.length ∧ nxt H j = i := by
  by_cases h : i = 0
  · refine ⟨H.length - 1, by omega, ?_⟩
    unfold nxt
    rw [if_pos (by omega), h]
  · refine ⟨i - 1, by omega, ?_⟩
    unfold nxt
    rw [if_neg (by omega)]
    omega
theorem flat3 {f : Fn} {a b c : P2} (hD : area a b c ≠ 0) (ha : cv f a = 0) (hb : cv f b = 0) (hc : cv f c = 0) : f.1 = 0 ∧ f.2.1 = 0 := by
  have e1 : area a b c * f.1 = (c.2 - a.2) * (cv f b - cv f a) - (b.2 - a.2) * (cv f c - cv f a) := by
    unfold area cv
    grind
  have e2 : area a b c * f.2.1 = (b.1 - a.1) * (cv f c - cv f a) - (c.1 - a.1) * (cv f b - cv f a) := by
    unfold area cv
    grind
  rw [ha, hb, hc] at e1 e2
  simp only [Int.sub_self, Int.mul_zero] at e1 e2
  exact ⟨(Int.mul_eq_zero.mp e1).resolve_left hD, (Int.mul_eq_zero.mp e2).resolve_left hD⟩
theorem Str.pos (hH : IsHull H H) {p : P2} (h : Str H p) {f : Fn} (hf : f.1 ≠ 0 ∨ f.2.1 ≠ 0) (h0 : ∀ x ∈ H, 0 ≤ cv f x) : 0 < cv f p := by
  obtain ⟨x, hx, hl⟩ := least_f f hH.pos
  obtain ⟨i, hi, ei⟩ := mem_nth hx
  obtain ⟨j, hj, ej⟩ := prev_of hi
  have h1 := nxt_lt hi
  have s := hH.strict h.1 hj
  rw [ej] at s
  have p1 := h.2 j hj
  rw [ej] at p1
  have p2 := h.2 i hi
  -- the functional moved to be zero at the corner
  obtain ⟨g, eg⟩ : ∃ g : Fn, g = (f.1, f.2.1, f.2.2 + cv f x) := ⟨_, rfl⟩
  have cg : ∀ y, cv g y = cv f y - cv f x := fun y => by rw [eg]; unfold cv; simp only []; omega
  have ge : ∀ y ∈ H, 0 ≤ cv g y := fun y hy => by
    have := hl y hy
    rw [cg]
    omega
  have z : cv g (nth H i) = 0 := by rw [cg, ei]; omega
  have e := tri_id g (nth H j) (nth H i) (nth H (nxt H i)) p
  rw [z, Int.mul_zero, Int.add_zero] at e
  have ga := ge _ (nth_mem hj)
  have gc := ge _ (nth_mem h1)
  have k1 := Int.mul_nonneg (Int.le_of_lt p2) ga
  have k2 := Int.mul_nonneg (Int.le_of_lt p1) gc
  have : 0 < cv g p := by
    refine pos_of_mul s ?_
    rcases Int.lt_or_le 0 (cv g (nth H j)) with a | a
    · have := Int.mul_pos p2 a
      omega
    · rcases Int.lt_or_le 0 (cv g (nth H (nxt H i))) with b | b
      · have := Int.mul_pos p1 b
        omega
      · exfalso
        have := flat3 (f := g) (show area (nth H j) (nth H i) (nth H (nxt H i)) ≠ 0 by omega) (by omega) z (by omega)
        rw [eg] at this
        simp only [] at this
        omega
  have := cg p
  have := h0 x hx
  omega
/-! ### on a side -/
theorem tilt {a b : P2} (g : Fn) : ∀ l : List P2, ∃ N : Int, 0 ≤ N ∧ ∀ h ∈ l, 0 < area a b h → 0 ≤ N * area a b h + cv g h
  | [] => ⟨0, Int.le_refl _, fun _ h => nomatch h⟩
  | x :: l => by
    obtain ⟨N, hN, k⟩ := tilt (a := a) (b := b) g l
    refine ⟨N + (cv g x).natAbs, by omega, fun h hh hp => ?_⟩
    rcases List.mem_cons.mp hh with rfl | hh
    · have h1 := Int.mul_nonneg hN (Int.le_of_lt hp)
      have h2 : ((cv g h).natAbs : Int) * 1 ≤ ((cv g h).natAbs : Int) * area a b h := Int.mul_le_mul_of_nonneg_left hp (by omega)
      rw [Int.add_mul]
      omega
    · have h1 := k h hh hp
      have h2 := Int.mul_nonneg (show (0 : Int) ≤ ((cv g x).natAbs : Int) by omega) (Int.le_of_lt hp)
      rw [Int.add_mul]
      omega
theorem In.face {a b p : P2} (he : Edge H a b) (h : In H p) (h0 : area a b p = 0) {g : Fn} (ga : 0 ≤ cv g a) (gb : 0 ≤ cv g b) : 0 ≤ cv g p := by
  obtain ⟨N, hN, k⟩ := tilt (a := a) (b := b) g H
  obtain ⟨f, ef⟩ : ∃ f : Fn, f = (N * (side a b).1 + g.1, N * (side a b).2.1 + g.2.1, N * (side a b).2.2 + g.2.2) := ⟨_, rfl⟩
  have cf : ∀ y, cv f y = N * area a b y + cv g y := fun y => by
    rw [ef, ← cv_side]
    unfold cv
    simp only []
    grind
  have := h f fun x hx => by
    rw [cf]
    rcases he x hx with z | z
    · exact k x hx z
    · rw [z.1, Int.mul_zero, Int.zero_add]
      exact seg_nonneg z ga gb
  rw [cf, h0, Int.mul_zero, Int.zero_add] at this
  exact this
theorem In.on_face {a b p : P2} (he : Edge H a b) (h : In H p) (h0 : area a b p = 0) : Seg p a b := by
  have x1 := fun m (ha : m ≤ a.1) (hb : m ≤ b.1) => h.face he h0 (g := (1, 0, m)) (by unfold cv; simp only []; omega) (by unfold cv; simp only []; omega)
  have x2 := fun m (ha : a.1 ≤ m) (hb : b.1 ≤ m) => h.face he h0 (g := (-1, 0, -m)) (by unfold cv; simp only []; omega) (by unfold cv; simp only []; omega)
  have y1 := fun m (ha : m ≤ a.2) (hb : m ≤ b.2) => h.face he h0 (g := (0, 1, m)) (by unfold cv; simp only []; omega) (by unfold cv; simp only []; omega)
  have y2 := fun m (ha : a.2 ≤ m) (hb : b.2 ≤ m) => h.face he h0 (g := (0, -1, -m)) (by unfold cv; simp only []; omega) (by unfold cv; simp only []; omega)
  refine ⟨h0, ?_, ?_⟩
  · unfold Bw
    rcases Int.le_total a.1 b.1 with k | k
    · have z1 := x1 a.1 (Int.le_refl _) k
      have z2 := x2 b.1 k (Int.le_refl _)
      unfold cv at z1 z2
      simp only [] at z1 z2
      omega
    · have z1 := x1 b.1 k (Int.le_refl _)
      have z2 := x2 a.1 (Int.le_refl _) k
      unfold cv at z1 z2
      simp only [] at z1 z2
      omega
  · unfold Bw
    rcases Int.le_total a.2 b.2 with k | k
    · have z1 := y1 a.2 (Int.le_refl _) k
      have z2 := y2 b.2 k (Int.le_refl _)
      unfold cv at z1 z2
      simp only [] at z1 z2
      omega
    · have z1 := y1 b.2 k (Int.le_refl _)
      have z2 := y2 a.2 (Int.le_refl _) k
      unfold cv at z1 z2
      simp only [] at z1 z2
      omega
theorem on_side (hH : IsHull H H) {p : P2} (h : In H p) (n : ¬ Str H p) : ∃ i, i < H.length ∧ Seg p (nth H i) (nth H (nxt H i)) := by
  have h0 := hH.pos
  by_cases hm : H.length < 3
  · have k := In_inP hH h
    unfold inP at k
    rw [if_pos hm] at k
    refine ⟨0, h0, ?_⟩
    have e : nxt H 0 = H.length - 1 := by unfold nxt; split <;> omega
    rw [e]
    exact k
  · by_cases c : ∃ i, i < H.length ∧ area (nth H i) (nth H (nxt H i)) p = 0
    · obtain ⟨i, hi, e⟩ := c
      exact ⟨i, hi, h.on_face (hH.edge hi) e⟩
    · exfalso
      refine n ⟨by omega, fun i hi => ?_⟩
      have h1 := h.edge hH hi
      have h2 : area (nth H i) (nth H (nxt H i)) p ≠ 0 := fun e => c ⟨i, hi, e⟩
      omega
end
end GM

/-! GM6: scaling; segments that meet. -/
namespace GM
def sc (k : Int) (p : P2) : P2 := (k * p.1, k * p.2)
def scL (k : Int) (H : List P2) : List P2 := H.map (sc k)
theorem sc_one (p : P2) : sc 1 p = p := by unfold sc; exact Prod.ext (Int.one_mul _) (Int.one_mul _)
theorem sc_sc (j k : Int) (p : P2) : sc j (sc k p) = sc (j * k) p := by
  unfold sc
  exact Prod.ext (Int.mul_assoc _ _ _).symm (Int.mul_assoc _ _ _).symm
theorem scL_scL (j k : Int) (H : List P2) : scL j (scL k H) = scL (j * k) H := by
  unfold scL
  rw [List.map_map]
  exact List.map_congr_left fun p _ => sc_sc j k p
theorem scL_one (H : List P2) : scL 1 H = H := by
  unfold scL
  rw [show sc 1 = id from funext sc_one, List.map_id]
theorem area_sc (k : Int) (a b c : P2) : area (sc k a) (sc k b) (sc k c) = k * k * area a b c := by
  unfold area sc
  grind
theorem sc_inj {k : Int} (hk : 0 < k) {p q : P2} (h : sc k p = sc k q) : p = q := by
  unfold sc at h
  injection h with h1 h2
  exact Prod.ext (Int.eq_of_mul_eq_mul_left (by omega) h1) (Int.eq_of_mul_eq_mul_left (by omega) h2)
theorem le_sc {k x y : Int} (hk : 0 < k) : k * x ≤ k * y ↔ x ≤ y := Int.mul_le_mul_left hk
theorem bw_sc {k x y z : Int} (hk : 0 < k) : Bw (k * x) (k * y) (k * z) ↔ Bw x y z := by
  unfold Bw
  rw [le_sc hk, le_sc hk, le_sc hk, le_sc hk]
theorem sq_pos {k : Int} (hk : 0 < k) : 0 < k * k := Int.mul_pos hk hk
theorem zero_sc {k x : Int} (hk : 0 < k) : k * k * x = 0 ↔ x = 0 := ⟨fun h => zero_of_mul (sq_pos hk) h, fun h => by rw [h, Int.mul_zero]⟩
theorem pos_sc {k x : Int} (hk : 0 < k) : 0 < k * k * x ↔ 0 < x := ⟨fun h => pos_of_mul (sq_pos hk) h, fun h => Int.mul_pos (sq_pos hk) h⟩
theorem nonneg_sc {k x : Int} (hk : 0 < k) : 0 ≤ k * k * x ↔ 0 ≤ x := ⟨fun h => nonneg_of_mul (sq_pos hk) h, fun h => Int.mul_nonneg (Int.le_of_lt (sq_pos hk)) h⟩
theorem seg_sc {k : Int} (hk : 0 < k) {p a b : P2} : Seg (sc k p) (sc k a) (sc k b) ↔ Seg p a b := by
  unfold Seg
  rw [area_sc, zero_sc hk]
  show (_ ∧ Bw (k * a.1) (k * p.1) (k * b.1) ∧ Bw (k * a.2) (k * p.2) (k * b.2)) ↔ _
  rw [bw_sc hk, bw_sc hk]
theorem scL_len (k : Int) (H : List P2) : (scL k H).length = H.length := List.length_map ..
theorem nth_sc (k : Int) {H : List P2} {i : Nat} (hi : i < H.length) : nth (scL k H) i = sc k (nth H i) := by
  unfold nth scL
  rw [List.getD_eq_getElem?_getD, List.getD_eq_getElem?_getD, List.getElem?_map, List.getElem?_eq_getElem hi]
  rfl
theorem nxt_sc (k : Int) (H : List P2) (i : Nat) : nxt (scL k H) i = nxt H i := by
  unfold nxt
  rw [scL_len]
theorem mem_sc {k : Int} {H : List P2} {p : P2} : p ∈ scL k H ↔ ∃ q ∈ H, sc k q = p := List.mem_map
theorem edge_sc {k : Int} (hk : 0 < k) {H : List P2} {a b : P2} (h : Edge H a b) : Edge (scL k H) (sc k a) (sc k b) := fun p hp => by
  obtain ⟨q, hq, rfl⟩ := mem_sc.mp hp
  rw [area_sc, pos_sc hk, seg_sc hk]
  exact h q hq
theorem steps_map {R S : P2 → P2 → Prop} {g : P2 → P2} (h : ∀ a b, R a b → S (g a) (g b)) : ∀ {l : List P2}, Steps R l → Steps S (l.map g)
  | [], _ => trivial
  | [_], _ => trivial
  | a :: b :: r, k => ⟨h a b k.1, steps_map h (l := b :: r) k.2⟩
theorem hull_sc {k : Int} (hk : 0 < k) {H : List P2} (h : IsHull H H) : IsHull (scL k H) (scL k H) := by
  obtain ⟨_, hn, a, r, e, hl, hs⟩ := h
  refine ⟨fun _ h => h, ?_, sc k a, scL k r, by rw [e]; rfl, fun p hp => ?_, ?_⟩
  · unfold scL
    exact List.Pairwise.map _ (fun a b n z => n (sc_inj hk z)) hn
  · obtain ⟨q, hq, rfl⟩ := mem_sc.mp hp
    rcases hl q hq with z | z
    · exact .inl (by rw [z])
    · refine .inr ?_
      unfold Lt sc at *
      simp only []
      rcases z with z | ⟨z1, z2⟩
      · exact .inl (Int.mul_lt_mul_of_pos_left z hk)
      · exact .inr ⟨by rw [z1], Int.mul_lt_mul_of_pos_left z2 hk⟩
  · have := steps_map (g := sc k) (fun a b => edge_sc hk (H := H)) hs
    rw [List.map_append] at this
    exact this
/-- a functional seen at another scale -/
theorem cv_sc (k : Int) (f : Fn) (p : P2) : cv (f.1, f.2.1, k * f.2.2) (sc k p) = k * cv f p := by
  unfold cv sc
  simp only []
  grind
theorem cv_sc2 (k : Int) (f : Fn) (p : P2) : cv f (sc k p) = cv (k * f.1, k * f.2.1, f.2.2) p := by
  unfold cv sc
  simp only []
  grind
theorem in_sc {k : Int} (hk : 0 < k) {H : List P2} {p : P2} : In (scL k H) (sc k p) ↔ In H p := by
  constructor
  · intro h f hf
    have := h (f.1, f.2.1, k * f.2.2) fun x hx => by
      obtain ⟨q, hq, rfl⟩ := mem_sc.mp hx
      rw [cv_sc]
      exact Int.mul_nonneg (Int.le_of_lt hk) (hf q hq)
    rw [cv_sc] at this
    exact nonneg_of_mul hk this
  · intro h f hf
    rw [cv_sc2]
    exact h _ fun x hx => by
      rw [← cv_sc2]
      exact hf _ (mem_sc.mpr ⟨x, hx, rfl⟩)
theorem str_sc {k : Int} (hk : 0 < k) {H : List P2} {p : P2} : Str (scL k H) (sc k p) ↔ Str H p := by
  unfold Str
  rw [scL_len]
  constructor
  · rintro ⟨h1, h2⟩
    refine ⟨h1, fun i hi => ?_⟩
    have := h2 i hi
    rw [nth_sc k hi, nxt_sc, nth_sc k (nxt_lt hi), area_sc, pos_sc hk] at this
    exact this
  · rintro ⟨h1, h2⟩
    refine ⟨h1, fun i hi => ?_⟩
    rw [nth_sc k hi, nxt_sc, nth_sc k (nxt_lt hi), area_sc, pos_sc hk]
    exact h2 i hi
/-! ### segments that meet -/
def meetP (a b c d : P2) : Prop := Seg a c d ∨ Seg b c d ∨ Seg c a b ∨ Seg d a b ∨ (area a b c * area a b d < 0 ∧ area c d a * area c d b < 0)
theorem prod_sc {k x y : Int} (hk : 0 < k) : (k * k * x) * (k * k * y) < 0 ↔ x * y < 0 := by
  have e : (k * k * x) * (k * k * y) = (k * k) * (k * k) * (x * y) := by grind
  rw [e]
  have := sq_pos (sq_pos hk)
  constructor
  · intro h
    rcases Int.lt_or_le (x * y) 0 with z | z
    · exact z
    · have := Int.mul_nonneg (Int.le_of_lt this) z
      omega
  · intro h
    have := Int.mul_pos this (show 0 < -(x * y) by omega)
    rw [Int.mul_neg] at this
    omega
theorem meet_sc {k : Int} (hk : 0 < k) {a b c d : P2} : meetP (sc k a) (sc k b) (sc k c) (sc k d) ↔ meetP a b c d := by
  unfold meetP
  rw [seg_sc hk, seg_sc hk, seg_sc hk, seg_sc hk, area_sc, area_sc, area_sc, area_sc, prod_sc hk, prod_sc hk]
theorem seg_comb {a b x : P2} {m n : Int} (hm : 0 ≤ m) (hn : 0 ≤ n) (e1 : x.1 = m * a.1 + n * b.1) (e2 : x.2 = m * a.2 + n * b.2) : Seg x (sc (m + n) a) (sc (m + n) b) := by
  have bw : ∀ {p q y : Int}, y = m * p + n * q → Bw ((m + n) * p) y ((m + n) * q) := fun {p q y} e => by
    have d1 : (m + n) * p = m * p + n * p := Int.add_mul _ _ _
    have d2 : (m + n) * q = m * q + n * q := Int.add_mul _ _ _
    unfold Bw
    rcases Int.le_total p q with z | z
    · have z1 := Int.mul_le_mul_of_nonneg_left z hm
      have z2 := Int.mul_le_mul_of_nonneg_left z hn
      omega
    · have z1 := Int.mul_le_mul_of_nonneg_left z hm
      have z2 := Int.mul_le_mul_of_nonneg_left z hn
      omega
  refine ⟨?_, bw e1, bw e2⟩
  unfold area sc
  simp only []
  rw [e1, e2]
  grind
theorem seg_left (a b : P2) : Seg a a b := ⟨area_aa a b, by unfold Bw; omega, by unfold Bw; omega⟩
theorem seg_right (a b : P2) : Seg b a b := ⟨area_ab a b, by unfold Bw; omega, by unfold Bw; omega⟩
theorem four_pt (a b c d : P2) : area a b d * c.1 - area a b c * d.1 = area c d a * b.1 - area c d b * a.1 ∧ area a b d * c.2 - area a b c * d.2 = area c d a * b.2 - area c d b * a.2 ∧ area a b d - area a b c = area c d a - area c d b := by
  unfold area
  refine ⟨?_, ?_, ?_⟩ <;> grind
theorem neg_prod {x y : Int} (h : x * y < 0) : (x < 0 ∧ 0 < y) ∨ (0 < x ∧ y < 0) := by
  rcases Int.lt_trichotomy x 0 with z | z | z
  · left
    refine ⟨z, ?_⟩
    rcases Int.lt_or_le 0 y with w | w
    · exact w
    · have := Int.mul_nonneg (show 0 ≤ -x by omega) (show 0 ≤ -y by omega)
      rw [Int.neg_mul_neg] at this
      omega
  · rw [z, Int.zero_mul] at h
    omega
  · right
    refine ⟨z, ?_⟩
    rcases Int.lt_or_le y 0 with w | w
    · exact w
    · have := Int.mul_nonneg (Int.le_of_lt z) w
      omega
/-- two segments that meet have a point in common -/
theorem meet_common {a b c d : P2} (h : meetP a b c d) : ∃ k x, 0 < k ∧ Seg x (sc k a) (sc k b) ∧ Seg x (sc k c) (sc k d) := by
  rcases h with h | h | h | h | ⟨h1, h2⟩
  · exact ⟨1, a, by decide, by rw [sc_one, sc_one]; exact seg_left a b, by rw [sc_one, sc_one]; exact h⟩
  · exact ⟨1, b, by decide, by rw [sc_one, sc_one]; exact seg_right a b, by rw [sc_one, sc_one]; exact h⟩
  · exact ⟨1, c, by decide, by rw [sc_one, sc_one]; exact h, by rw [sc_one, sc_one]; exact seg_left c d⟩
  · exact ⟨1, d, by decide, by rw [sc_one, sc_one]; exact h, by rw [sc_one, sc_one]; exact seg_right c d⟩
  · obtain ⟨f1, f2, f3⟩ := four_pt a b c d
    rcases neg_prod h1 with ⟨s, t⟩ | ⟨s, t⟩
    · -- c on the right, d on the left
      have e : 0 < area c d a - area c d b := by omega
      have pq : area c d b < 0 ∧ 0 < area c d a := by
        rcases neg_prod h2 with z | z
        · omega
        · omega
      refine ⟨area a b d - area a b c, (area a b d * c.1 - area a b c * d.1, area a b d * c.2 - area a b c * d.2), by omega, ?_, ?_⟩
      · have := seg_comb (a := a) (b := b) (x := (area a b d * c.1 - area a b c * d.1, area a b d * c.2 - area a b c * d.2)) (m := -area c d b) (n := area c d a) (by omega) (by omega) (by simp only []; rw [f1, Int.neg_mul]; omega) (by simp only []; rw [f2, Int.neg_mul]; omega)
        rw [show -area c d b + area c d a = area a b d - area a b c by omega] at this
        exact this
      · have := seg_comb (a := c) (b := d) (x := (area a b d * c.1 - area a b c * d.1, area a b d * c.2 - area a b c * d.2)) (m := area a b d) (n := -area a b c) (by omega) (by omega) (by simp only []; rw [Int.neg_mul]; omega) (by simp only []; rw [Int.neg_mul]; omega)
        rw [show area a b d + -area a b c = area a b d - area a b c by omega] at this
        exact this
    · have pq : area c d a < 0 ∧ 0 < area c d b := by
        rcases neg_prod h2 with z | z
        · omega
        · omega
      refine ⟨area a b c - area a b d, (area a b c * d.1 - area a b d * c.1, area a b c * d.2 - area a b d * c.2), by omega, ?_, ?_⟩
      · have := seg_comb (a := a) (b := b) (x := (area a b c * d.1 - area a b d * c.1, area a b c * d.2 - area a b d * c.2)) (m := area c d b) (n := -area c d a) (by omega) (by omega) (by simp only []; rw [Int.neg_mul]; omega) (by simp only []; rw [Int.neg_mul]; omega)
        rw [show area c d b + -area c d a = area a b c - area a b d by omega] at this
        exact this
      · have := seg_comb (a := c) (b := d) (x := (area a b c * d.1 - area a b d * c.1, area a b c * d.2 - area a b d * c.2)) (m := -area a b d) (n := area a b c) (by omega) (by omega) (by simp only []; rw [Int.neg_mul]; omega) (by simp only []; rw [Int.neg_mul]; omega)
        rw [show -area a b d + area a b c = area a b c - area a b d by omega] at this
        exact this
/-- on a segment, zero where an end alone is zero: that end -/
theorem seg_end {f : Fn} {x c d : P2} (h : Seg x c d) (hc : cv f c = 0) (hd : cv f d ≠ 0) (hx : cv f x = 0) : x = c := by
  obtain ⟨m, n, hm, hn, hk, e⟩ := seg_share h
  have e0 := e f
  rw [hc, hx, Int.mul_zero, Int.mul_zero, Int.zero_add] at e0
  have n0 : n = 0 := by
    rcases Int.mul_eq_zero.mp e0.symm with z | z
    · exact z
    · exact absurd z hd
  have e1 := e (1, 0, 0)
  have e2 := e (0, 1, 0)
  rw [n0] at e1 e2
  unfold cv at e1 e2
  simp only [Int.zero_mul, Int.add_zero, Int.one_mul, Int.zero_add, Int.sub_zero] at e1 e2
  exact Prod.ext (Int.eq_of_mul_eq_mul_left (by omega) e1) (Int.eq_of_mul_eq_mul_left (by omega) e2)
theorem seg_neg {f : Fn} {a b p : P2} (h : Seg p a b) (ha : cv f a < 0) (hb : cv f b < 0) : cv f p < 0 := by
  have e : ∀ q, cv (-f.1, -f.2.1, -f.2.2) q = -cv f q := fun q => by unfold cv; simp only []; grind
  have := seg_pos (f := (-f.1, -f.2.1, -f.2.2)) h (by rw [e]; omega) (by rw [e]; omega)
  rw [e] at this
  omega
/-- all on one line -/
theorem seg_line1 {a b p : P2} (n : a.1 ≠ b.1) (h : area a b p = 0) (hb : Bw a.1 p.1 b.1) : Seg p a b := by
  rcases Int.lt_or_le a.1 b.1 with k | k
  · refine seg_of_f (u := 1) (v := 0) ?_ h ?_ ?_ <;> unfold lin <;> unfold Bw at hb <;> omega
  · refine seg_of_f (u := -1) (v := 0) ?_ h ?_ ?_ <;> unfold lin <;> unfold Bw at hb <;> omega
theorem seg_line2 {a b p : P2} (n : a.2 ≠ b.2) (h : area a b p = 0) (hb : Bw a.2 p.2 b.2) : Seg p a b := by
  rcases Int.lt_or_le a.2 b.2 with k | k
  · refine seg_of_f (u := 0) (v := 1) ?_ h ?_ ?_ <;> unfold lin <;> unfold Bw at hb <;> omega
  · refine seg_of_f (u := 0) (v := -1) ?_ h ?_ ?_ <;> unfold lin <;> unfold Bw at hb <;> omega
theorem line_tr {a b c d : P2} (n : a ≠ b) (hc : area a b c = 0) (hd : area a b d = 0) : area c d a = 0 ∧ area c d b = 0 := by
  have e1 : (b.1 - a.1) * area c d a = -((d.1 - c.1) * area a b c) - (area a b d - area a b c) * (a.1 - c.1) := by unfold area; grind
  have e2 : (b.2 - a.2) * area c d a = -((d.2 - c.2) * area a b c) - (area a b d - area a b c) * (a.2 - c.2) := by unfold area; grind
  have e3 : (b.1 - a.1) * area c d b = -((d.1 - c.1) * area a b c) - (area a b d - area a b c) * (b.1 - c.1) := by unfold area; grind
  have e4 : (b.2 - a.2) * area c d b = -((d.2 - c.2) * area a b c) - (area a b d - area a b c) * (b.2 - c.2) := by unfold area; grind
  rw [hc, hd] at e1 e2 e3 e4
  simp only [Int.mul_zero, Int.sub_self, Int.zero_mul, Int.neg_zero] at e1 e2 e3 e4
  have ne : b.1 - a.1 ≠ 0 ∨ b.2 - a.2 ≠ 0 := by
    by_cases h : a.1 = b.1
    · right
      intro z
      exact n (Prod.ext h (by omega))
    · left
      omega
  rcases ne with z | z
  · exact ⟨(Int.mul_eq_zero.mp e1).resolve_left z, (Int.mul_eq_zero.mp e3).resolve_left z⟩
  · exact ⟨(Int.mul_eq_zero.mp e2).resolve_left z, (Int.mul_eq_zero.mp e4).resolve_left z⟩
theorem meet_half {a b c d x : P2} (h : Seg x a b) (k : Seg x c d) : area a b c * area a b d < 0 ∨ Seg a c d ∨ Seg b c d ∨ Seg c a b ∨ Seg d a b := by
  have hx : cv (side a b) x = 0 := by rw [cv_side]; exact h.1
  rcases Int.lt_trichotomy (area a b c) 0 with s | s | s <;> rcases Int.lt_trichotomy (area a b d) 0 with t | t | t
  · exfalso
    have := seg_neg (f := side a b) k (by rw [cv_side]; exact s) (by rw [cv_side]; exact t)
    omega
  · have := seg_end (f := side a b) (seg_sw k) (by rw [cv_side]; exact t) (by rw [cv_side]; omega) hx
    exact .inr (.inr (.inr (.inr (by rw [← this]; exact h))))
  · left
    have := Int.mul_pos (show 0 < -area a b c by omega) t
    rw [Int.neg_mul] at this
    omega
  · have := seg_end (f := side a b) k (by rw [cv_side]; exact s) (by rw [cv_side]; omega) hx
    exact .inr (.inr (.inr (.inl (by rw [← this]; exact h))))
  · -- all on one line
    right
    by_cases e : a = b
    · subst e
      have : x = a := Prod.ext (by have := h.2.1; unfold Bw at this; omega) (by have := h.2.2; unfold Bw at this; omega)
      exact .inl (by rw [← this]; exact k)
    · obtain ⟨z1, z2⟩ := line_tr e s t
      obtain ⟨h0, h1, h2⟩ := h
      obtain ⟨k0, k1, k2⟩ := k
      by_cases n1 : a.1 = b.1
      · have n2 : a.2 ≠ b.2 := fun z => e (Prod.ext n1 z)
        by_cases m2 : c.2 = d.2
        · -- c is d
          have ex : x.2 = c.2 := by unfold Bw at k2; omega
          exact .inr (.inr (.inl (seg_line2 n2 s (by rw [← ex]; exact h2))))
        · by_cases q1 : Bw c.2 a.2 d.2
          · exact .inl (seg_line2 m2 z1 q1)
          · by_cases q2 : Bw c.2 b.2 d.2
            · exact .inr (.inl (seg_line2 m2 z2 q2))
            · refine .inr (.inr (.inl (seg_line2 n2 s ?_)))
              unfold Bw at *
              omega
      · by_cases m1 : c.1 = d.1
        · have ex : x.1 = c.1 := by unfold Bw at k1; omega
          exact .inr (.inr (.inl (seg_line1 n1 s (by rw [← ex]; exact h1))))
        · by_cases q1 : Bw c.1 a.1 d.1
          · exact .inl (seg_line1 m1 z1 q1)
          · by_cases q2 : Bw c.1 b.1 d.1
            · exact .inr (.inl (seg_line1 m1 z2 q2))
            · refine .inr (.inr (.inl (seg_line1 n1 s ?_)))
              unfold Bw at *
              omega
  · have := seg_end (f := side a b) k (by rw [cv_side]; exact s) (by rw [cv_side]; omega) hx
    exact .inr (.inr (.inr (.inl (by rw [← this]; exact h))))
  · left
    have := Int.mul_pos s (show 0 < -area a b d by omega)
    rw [Int.mul_neg] at this
    omega
  · have := seg_end (f := side a b) (seg_sw k) (by rw [cv_side]; exact t) (by rw [cv_side]; omega) hx
    exact .inr (.inr (.inr (.inr (by rw [← this]; exact h))))
  · exfalso
    have := seg_pos (f := side a b) k (by rw [cv_side]; exact s) (by rw [cv_side]; exact t)
    omega
theorem meet_of {a b c d x : P2} (h : Seg x a b) (k : Seg x c d) : meetP a b c d := by
  unfold meetP
  rcases meet_half h k with p | p | p | p | p
  · rcases meet_half k h with q | q | q | q | q
    · exact .inr (.inr (.inr (.inr ⟨p, q⟩)))
    · exact .inr (.inr (.inl q))
    · exact .inr (.inr (.inr (.inl q)))
    · exact .inl q
    · exact .inr (.inl q)
  · exact .inl p
  · exact .inr (.inl p)
  · exact .inr (.inr (.inl p))
  · exact .inr (.inr (.inr (.inl p)))
theorem meet_iff {a b c d : P2} : meetP a b c d ↔ ∃ k x, 0 < k ∧ Seg x (sc k a) (sc k b) ∧ Seg x (sc k c) (sc k d) := ⟨meet_common, fun ⟨k, x, hk, h1, h2⟩ => (meet_sc hk).mp (meet_of h1 h2)⟩
end GM

/-! GM7: how much of a segment lies in half planes. -/
namespace GM
abbrev Q2 := Int × Int
/-- what a plane says at the share n / d -/
def ev (q : Q2) (n d : Int) : Int := q.1 * (d - n) + q.2 * n
theorem ev_eq (q : Q2) (n d : Int) : ev q n d = q.1 * d + (q.2 - q.1) * n := by unfold ev; grind
structure Cs where
  l : Int
  u : Int
  h : Int
  o : Int
def stepC (dep : Int) (st : Cs) (q : Q2) : Option Cs :=
  if q.1 < dep then
    if q.2 < dep then none else if -q.1 * st.u > st.l * (q.2 - q.1) then some ⟨-q.1, q.2 - q.1, st.h, st.o⟩ else some st
  else if q.2 < dep ∧ q.1 * st.o < st.h * (q.1 - q.2) then some ⟨st.l, st.u, q.1, q.1 - q.2⟩ else some st
def clipC (dep : Int) : Cs → List Q2 → Option Cs
  | st, [] => if st.l * st.o + dep > st.h * st.u then none else some st
  | st, q :: r => match stepC dep st q with
    | none => none
    | some st' => clipC dep st' r
theorem fr_le {l u l' u' n d : Int} (hu' : 0 < u') (hu : 0 ≤ u) (hd : 0 ≤ d) (h : l * u' ≤ l' * u) (k : l' * d ≤ n * u') : l * d ≤ n * u := by
  have a := Int.mul_le_mul_of_nonneg_right h hd
  have b := Int.mul_le_mul_of_nonneg_right k hu
  have : u' * (l * d) ≤ u' * (n * u) := by grind
  exact (Int.mul_le_mul_left hu').mp this
theorem fr_lt {l u l' u' n d : Int} (hu' : 0 < u') (hu : 0 ≤ u) (hd : 0 < d) (h : l * u' < l' * u) (k : l' * d ≤ n * u') : l * d < n * u := by
  have a := Int.mul_lt_mul_of_pos_right h hd
  have b := Int.mul_le_mul_of_nonneg_right k hu
  have : u' * (l * d) < u' * (n * u) := by grind
  exact Int.lt_of_mul_lt_mul_left this (Int.le_of_lt hu')
theorem fr_lt2 {l u l' u' n d : Int} (hu' : 0 < u') (hu : 0 < u) (hd : 0 ≤ d) (h : l * u' ≤ l' * u) (k : l' * d < n * u') : l * d < n * u := by
  have a := Int.mul_le_mul_of_nonneg_right h hd
  have b := Int.mul_lt_mul_of_pos_right k hu
  have : u' * (l * d) < u' * (n * u) := by grind
  exact Int.lt_of_mul_lt_mul_left this (Int.le_of_lt hu')
/-- so far -/
structure Inv0 (ps : List Q2) (c : Cs) : Prop where
  u : 0 < c.u
  o : 0 < c.o
  l0 : 0 ≤ c.l
  lu : c.l ≤ c.u
  h0 : 0 ≤ c.h
  ho : c.h ≤ c.o
  ok : ∀ q ∈ ps, ∀ n d, 0 < d → 0 ≤ n → n ≤ d → c.l * d ≤ n * c.u → n * c.o ≤ c.h * d → 0 ≤ ev q n d
  all : ∀ n d, 0 < d → 0 ≤ n → n ≤ d → (∀ q ∈ ps, 0 ≤ ev q n d) → c.l * d ≤ n * c.u ∧ n * c.o ≤ c.h * d
  at_ : c.l = 0 ∨ ∃ q ∈ ps, ev q c.l c.u = 0 ∧ q.1 < 0
theorem inv0_start : Inv0 [] ⟨0, 1, 1, 1⟩ := ⟨by decide, by decide, by decide, by decide, by decide, by decide, (fun _ h => nomatch h), fun n d hd h0 h1 _ => by simp only []; omega, .inl rfl⟩
theorem inv0_step {ps : List Q2} {c c' : Cs} {q : Q2} (I : Inv0 ps c) (h : stepC 0 c q = some c') : Inv0 (q :: ps) c' := by
  unfold stepC at h
  by_cases h1 : q.1 < 0
  · rw [if_pos h1] at h
    by_cases h2 : q.2 < 0
    · rw [if_pos h2] at h
      cases h
    · rw [if_neg h2] at h
      have hw : 0 < q.2 - q.1 := by omega
      -- the plane alone
      have pl : ∀ n d : Int, 0 ≤ ev q n d ↔ -q.1 * d ≤ n * (q.2 - q.1) := fun n d => by
        rw [ev_eq, Int.neg_mul, Int.mul_comm (q.2 - q.1) n]
        omega
      by_cases h3 : -q.1 * c.u > c.l * (q.2 - q.1)
      · rw [if_pos h3] at h
        cases h
        refine ⟨hw, I.o, by show 0 ≤ -q.1; omega, by show -q.1 ≤ q.2 - q.1; omega, I.h0, I.ho, fun z hz n d hd n0 n1 k1 k2 => ?_, fun n d hd n0 n1 k => ?_, .inr ⟨q, List.mem_cons_self, ?_, h1⟩⟩
        · rcases List.mem_cons.mp hz with rfl | hz
          · exact (pl n d).mpr k1
          · exact I.ok z hz n d hd n0 n1 (fr_le hw (Int.le_of_lt I.u) (Int.le_of_lt hd) (Int.le_of_lt h3) k1) k2
        · exact ⟨(pl n d).mp (k q List.mem_cons_self), (I.all n d hd n0 n1 fun z hz => k z (List.mem_cons_of_mem _ hz)).2⟩
        · unfold ev
          grind
      · rw [if_neg h3] at h
        cases h
        refine ⟨I.u, I.o, I.l0, I.lu, I.h0, I.ho, fun z hz n d hd n0 n1 k1 k2 => ?_, fun n d hd n0 n1 k => I.all n d hd n0 n1 fun z hz => k z (List.mem_cons_of_mem _ hz), ?_⟩
        · rcases List.mem_cons.mp hz with rfl | hz
          · exact (pl n d).mpr (fr_le I.u (Int.le_of_lt hw) (Int.le_of_lt hd) (by omega) k1)
          · exact I.ok z hz n d hd n0 n1 k1 k2
        · rcases I.at_ with z | ⟨z, hz, e⟩
          · exact .inl z
          · exact .inr ⟨z, List.mem_cons_of_mem _ hz, e⟩
  · rw [if_neg h1] at h
    by_cases h2 : q.2 < 0 ∧ q.1 * c.o < c.h * (q.1 - q.2)
    · rw [if_pos h2] at h
      cases h
      have hw : 0 < q.1 - q.2 := by omega
      have pl : ∀ n d : Int, 0 ≤ ev q n d ↔ n * (q.1 - q.2) ≤ q.1 * d := fun n d => by
        have : (q.2 - q.1) * n = -(n * (q.1 - q.2)) := by grind
        rw [ev_eq, this]
        omega
      refine ⟨I.u, hw, I.l0, I.lu, by show 0 ≤ q.1; omega, by show q.1 ≤ q.1 - q.2; omega, fun z hz n d hd n0 n1 k1 k2 => ?_, fun n d hd n0 n1 k => ?_, ?_⟩
      · rcases List.mem_cons.mp hz with rfl | hz
        · exact (pl n d).mpr k2
        · refine I.ok z hz n d hd n0 n1 k1 ?_
          have a := Int.mul_le_mul_of_nonneg_right k2 (Int.le_of_lt I.o)
          have b := Int.mul_lt_mul_of_pos_right h2.2 hd
          have : (q.1 - q.2) * (n * c.o) ≤ (q.1 - q.2) * (c.h * d) := by
            show (q.1 - q.2) * (n * c.o) ≤ (q.1 - q.2) * (c.h * d)
            have a' : n * (q.1 - q.2) * c.o ≤ q.1 * d * c.o := a
            grind
          exact (Int.mul_le_mul_left hw).mp this
      · exact ⟨(I.all n d hd n0 n1 fun z hz => k z (List.mem_cons_of_mem _ hz)).1, (pl n d).mp (k q List.mem_cons_self)⟩
      · rcases I.at_ with z | ⟨z, hz, e⟩
        · exact .inl z
        · exact .inr ⟨z, List.mem_cons_of_mem _ hz, e⟩
    · rw [if_neg h2] at h
      cases h
      refine ⟨I.u, I.o, I.l0, I.lu, I.h0, I.ho, fun z hz n d hd n0 n1 k1 k2 => ?_, fun n d hd n0 n1 k => I.all n d hd n0 n1 fun z hz => k z (List.mem_cons_of_mem _ hz), ?_⟩
      · rcases List.mem_cons.mp hz with rfl | hz
        · by_cases h3 : z.2 < 0
          · have h4 : z.1 * c.o ≥ c.h * (z.1 - z.2) := by
              rcases Int.lt_or_le (z.1 * c.o) (c.h * (z.1 - z.2)) with w | w
              · exact absurd ⟨h3, w⟩ h2
              · exact w
            have a := Int.mul_le_mul_of_nonneg_right k2 (show 0 ≤ z.1 - z.2 by omega)
            have b := Int.mul_le_mul_of_nonneg_right h4 (Int.le_of_lt hd)
            have : c.o * (n * (z.1 - z.2)) ≤ c.o * (z.1 * d) := by grind
            have := (Int.mul_le_mul_left I.o).mp this
            have e : (z.2 - z.1) * n = -(n * (z.1 - z.2)) := by grind
            rw [ev_eq, e]
            omega
          · have a := Int.mul_nonneg (show 0 ≤ z.1 by omega) (show 0 ≤ d - n by omega)
            have b := Int.mul_nonneg (show 0 ≤ z.2 by omega) n0
            unfold ev
            omega
        · exact I.ok z hz n d hd n0 n1 k1 k2
      · rcases I.at_ with z | ⟨z, hz, e⟩
        · exact .inl z
        · exact .inr ⟨z, List.mem_cons_of_mem _ hz, e⟩
theorem clip0_some {ps qs : List Q2} : ∀ {c c' : Cs}, Inv0 ps c → clipC 0 c qs = some c' → Inv0 (qs.reverse ++ ps) c' ∧ c'.l * c'.o ≤ c'.h * c'.u := by
  induction qs generalizing ps with
  | nil =>
    intro c c' I h
    unfold clipC at h
    split at h
    · cases h
    · cases h
      exact ⟨I, by omega⟩
  | cons q r ih =>
    intro c c' I h
    unfold clipC at h
    cases e : stepC 0 c q with
    | none => rw [e] at h; cases h
    | some c1 =>
      rw [e] at h
      have := ih (inv0_step I e) h
      rw [List.reverse_cons, List.append_assoc]
      exact this
theorem step0_none {c : Cs} {q : Q2} (h : stepC 0 c q = none) {n d : Int} (hd : 0 < d) (n0 : 0 ≤ n) (n1 : n ≤ d) : ev q n d < 0 := by
  unfold stepC at h
  by_cases h1 : q.1 < 0
  · by_cases h2 : q.2 < 0
    · have a := Int.mul_nonneg (show 0 ≤ -q.1 by omega) (show 0 ≤ d - n by omega)
      have b := Int.mul_nonneg (show 0 ≤ -q.2 by omega) n0
      unfold ev
      rw [Int.neg_mul] at a b
      rcases Int.lt_or_le n d with z | z
      · have := Int.mul_pos (show 0 < -q.1 by omega) (show 0 < d - n by omega)
        rw [Int.neg_mul] at this
        omega
      · have := Int.mul_pos (show 0 < -q.2 by omega) (show 0 < n by omega)
        rw [Int.neg_mul] at this
        omega
    · rw [if_pos h1, if_neg h2] at h
      split at h <;> cases h
  · rw [if_neg h1] at h
    split at h <;> cases h
theorem clip0_none {ps qs : List Q2} : ∀ {c : Cs}, Inv0 ps c → clipC 0 c qs = none → ∀ n d : Int, 0 < d → 0 ≤ n → n ≤ d → ∃ q ∈ qs.reverse ++ ps, ev q n d < 0 := by
  induction qs generalizing ps with
  | nil =>
    intro c I h n d hd n0 n1
    unfold clipC at h
    split at h
    · rename_i hf
      by_cases k : ∀ q ∈ ps, 0 ≤ ev q n d
      · exfalso
        obtain ⟨a, b⟩ := I.all n d hd n0 n1 k
        have := I.u
        have := I.o
        have x := Int.mul_le_mul_of_nonneg_right a (Int.le_of_lt I.o)
        have y := Int.mul_le_mul_of_nonneg_right b (Int.le_of_lt I.u)
        have z : d * (c.l * c.o) ≤ d * (c.h * c.u) := by grind
        have := (Int.mul_le_mul_left hd).mp z
        omega
      · obtain ⟨q, hq⟩ := Classical.not_forall.mp k
        obtain ⟨hq1, hq2⟩ := Classical.not_imp.mp hq
        exact ⟨q, by simpa using hq1, by omega⟩
    · cases h
  | cons q r ih =>
    intro c I h n d hd n0 n1
    unfold clipC at h
    rw [List.reverse_cons, List.append_assoc]
    cases e : stepC 0 c q with
    | none => exact ⟨q, by simp, step0_none e hd n0 n1⟩
    | some c1 =>
      rw [e] at h
      exact ih (inv0_step I e) h n d hd n0 n1
def start : Cs := ⟨0, 1, 1, 1⟩
/-- what is left of a segment within half planes -/
theorem clip0 {qs : List Q2} {c : Cs} (h : clipC 0 start qs = some c) : (0 < c.u ∧ 0 < c.o ∧ 0 ≤ c.l ∧ c.l ≤ c.u ∧ 0 ≤ c.h ∧ c.h ≤ c.o) ∧ (∀ q ∈ qs, 0 ≤ ev q c.l c.u) ∧ (∀ q ∈ qs, 0 ≤ ev q c.h c.o) ∧ (c.l = 0 ∨ ∃ q ∈ qs, ev q c.l c.u = 0 ∧ q.1 < 0) := by
  obtain ⟨I, hf⟩ := clip0_some inv0_start h
  rw [List.append_nil] at I
  refine ⟨⟨I.u, I.o, I.l0, I.lu, I.h0, I.ho⟩, fun q hq => I.ok q (by simpa using hq) _ _ I.u I.l0 I.lu (Int.le_refl _) (by rw [Int.mul_comm]; rw [Int.mul_comm] at hf; rw [Int.mul_comm c.o]; rw [Int.mul_comm c.o] at hf; exact hf), fun q hq => I.ok q (by simpa using hq) _ _ I.o I.h0 I.ho hf (Int.le_refl _), ?_⟩
  rcases I.at_ with z | ⟨q, hq, e⟩
  · exact .inl z
  · exact .inr ⟨q, by simpa using hq, e⟩
theorem clip0_no {qs : List Q2} (h : clipC 0 start qs = none) {n d : Int} (hd : 0 < d) (n0 : 0 ≤ n) (n1 : n ≤ d) : ∃ q ∈ qs, ev q n d < 0 := by
  obtain ⟨q, hq, e⟩ := clip0_none inv0_start h n d hd n0 n1
  exact ⟨q, by simpa using hq, e⟩
theorem clip0_iff {qs : List Q2} : (clipC 0 start qs).isSome = true ↔ ∃ n d : Int, 0 < d ∧ 0 ≤ n ∧ n ≤ d ∧ ∀ q ∈ qs, 0 ≤ ev q n d := by
  cases e : clipC 0 start qs with
  | none =>
    refine ⟨(fun h => nomatch h), fun ⟨n, d, hd, n0, n1, h⟩ => ?_⟩
    obtain ⟨q, hq, k⟩ := clip0_no e hd n0 n1
    have := h q hq
    omega
  | some c =>
    obtain ⟨⟨a1, _, a2, a3, _⟩, b, _⟩ := clip0 e
    exact ⟨fun _ => ⟨_, _, a1, a2, a3, b⟩, fun _ => rfl⟩
/-! ### inside -/
structure Inv1 (ps : List Q2) (c : Cs) : Prop where
  u : 0 < c.u
  o : 0 < c.o
  l0 : 0 ≤ c.l
  lu : c.l < c.u
  h0 : 0 < c.h
  ho : c.h ≤ c.o
  ok : ∀ q ∈ ps, ∀ n d, 0 < d → c.l * d < n * c.u → n * c.o < c.h * d → 0 < ev q n d
  all : ∀ n d, 0 < d → 0 ≤ n → n ≤ d → (∀ q ∈ ps, 0 < ev q n d) → (c.l * d ≤ n * c.u ∧ n * c.o ≤ c.h * d) ∧ (c.l ≠ 0 → c.l * d < n * c.u)
theorem inv1_start : Inv1 [] ⟨0, 1, 1, 1⟩ := ⟨by decide, by decide, by decide, by decide, by decide, by decide, (fun _ h => nomatch h), fun n d hd h0 h1 _ => ⟨by simp only []; omega, fun h => absurd rfl h⟩⟩
theorem inv1_step {ps : List Q2} {c c' : Cs} {q : Q2} (I : Inv1 ps c) (h : stepC 1 c q = some c') : Inv1 (q :: ps) c' := by
  unfold stepC at h
  by_cases h1 : q.1 < 1
  · rw [if_pos h1] at h
    by_cases h2 : q.2 < 1
    · rw [if_pos h2] at h
      cases h
    · rw [if_neg h2] at h
      have hw : 0 < q.2 - q.1 := by omega
      have pl : ∀ n d : Int, 0 < ev q n d ↔ -q.1 * d < n * (q.2 - q.1) := fun n d => by
        rw [ev_eq, Int.neg_mul, Int.mul_comm (q.2 - q.1) n]
        omega
      by_cases h3 : -q.1 * c.u > c.l * (q.2 - q.1)
      · rw [if_pos h3] at h
        cases h
        refine ⟨hw, I.o, by show 0 ≤ -q.1; omega, by show -q.1 < q.2 - q.1; omega, I.h0, I.ho, fun z hz n d hd k1 k2 => ?_, fun n d hd n0 n1 k => ?_⟩
        · rcases List.mem_cons.mp hz with rfl | hz
          · exact (pl n d).mpr k1
          · exact I.ok z hz n d hd (fr_lt hw (Int.le_of_lt I.u) hd h3 (Int.le_of_lt k1)) k2
        · have a := (pl n d).mp (k q List.mem_cons_self)
          exact ⟨⟨Int.le_of_lt a, (I.all n d hd n0 n1 fun z hz => k z (List.mem_cons_of_mem _ hz)).1.2⟩, fun _ => a⟩
      · rw [if_neg h3] at h
        cases h
        refine ⟨I.u, I.o, I.l0, I.lu, I.h0, I.ho, fun z hz n d hd k1 k2 => ?_, fun n d hd n0 n1 k => I.all n d hd n0 n1 fun z hz => k z (List.mem_cons_of_mem _ hz)⟩
        rcases List.mem_cons.mp hz with rfl | hz
        · exact (pl n d).mpr (fr_lt2 I.u hw (Int.le_of_lt hd) (by omega) k1)
        · exact I.ok z hz n d hd k1 k2
  · rw [if_neg h1] at h
    by_cases h2 : q.2 < 1 ∧ q.1 * c.o < c.h * (q.1 - q.2)
    · rw [if_pos h2] at h
      cases h
      have hw : 0 < q.1 - q.2 := by omega
      have pl : ∀ n d : Int, 0 < ev q n d ↔ n * (q.1 - q.2) < q.1 * d := fun n d => by
        have : (q.2 - q.1) * n = -(n * (q.1 - q.2)) := by grind
        rw [ev_eq, this]
        omega
      refine ⟨I.u, hw, I.l0, I.lu, by show 0 < q.1; omega, by show q.1 ≤ q.1 - q.2; omega, fun z hz n d hd k1 k2 => ?_, fun n d hd n0 n1 k => ?_⟩
      · rcases List.mem_cons.mp hz with rfl | hz
        · exact (pl n d).mpr k2
        · refine I.ok z hz n d hd k1 ?_
          have a : n * (q.1 - q.2) * c.o < q.1 * d * c.o := Int.mul_lt_mul_of_pos_right k2 I.o
          have b := Int.mul_lt_mul_of_pos_right h2.2 hd
          have : (q.1 - q.2) * (n * c.o) < (q.1 - q.2) * (c.h * d) := by grind
          exact Int.lt_of_mul_lt_mul_left this (Int.le_of_lt hw)
      · have a := I.all n d hd n0 n1 fun z hz => k z (List.mem_cons_of_mem _ hz)
        exact ⟨⟨a.1.1, Int.le_of_lt ((pl n d).mp (k q List.mem_cons_self))⟩, a.2⟩
    · rw [if_neg h2] at h
      cases h
      refine ⟨I.u, I.o, I.l0, I.lu, I.h0, I.ho, fun z hz n d hd k1 k2 => ?_, fun n d hd n0 n1 k => I.all n d hd n0 n1 fun z hz => k z (List.mem_cons_of_mem _ hz)⟩
      rcases List.mem_cons.mp hz with rfl | hz
      · by_cases h3 : z.2 < 1
        · have h4 : z.1 * c.o ≥ c.h * (z.1 - z.2) := by
            rcases Int.lt_or_le (z.1 * c.o) (c.h * (z.1 - z.2)) with w | w
            · exact absurd ⟨h3, w⟩ h2
            · exact w
          have a := Int.mul_lt_mul_of_pos_right k2 (show 0 < z.1 - z.2 by omega)
          have b := Int.mul_le_mul_of_nonneg_right h4 (Int.le_of_lt hd)
          have : c.o * (n * (z.1 - z.2)) < c.o * (z.1 * d) := by grind
          have := Int.lt_of_mul_lt_mul_left this (Int.le_of_lt I.o)
          have e : (z.2 - z.1) * n = -(n * (z.1 - z.2)) := by grind
          rw [ev_eq, e]
          omega
        · have n0 : 0 < n := by
            have := Int.mul_nonneg I.l0 (Int.le_of_lt hd)
            have : 0 < n * c.u := by omega
            rw [Int.mul_comm] at this
            exact pos_of_mul I.u this
          have n1 : n < d := by
            have : c.h * d ≤ c.o * d := Int.mul_le_mul_of_nonneg_right I.ho (Int.le_of_lt hd)
            have : c.o * n < c.o * d := by rw [Int.mul_comm c.o n]; omega
            exact Int.lt_of_mul_lt_mul_left this (Int.le_of_lt I.o)
          have a := Int.mul_pos (show 0 < z.1 by omega) (show 0 < d - n by omega)
          have b := Int.mul_pos (show 0 < z.2 by omega) n0
          unfold ev
          omega
      · exact I.ok z hz n d hd k1 k2
theorem clip1_some {ps qs : List Q2} : ∀ {c c' : Cs}, Inv1 ps c → clipC 1 c qs = some c' → Inv1 (qs.reverse ++ ps) c' ∧ c'.l * c'.o < c'.h * c'.u := by
  induction qs generalizing ps with
  | nil =>
    intro c c' I h
    unfold clipC at h
    split at h
    · cases h
    · cases h
      exact ⟨I, by omega⟩
  | cons q r ih =>
    intro c c' I h
    unfold clipC at h
    cases e : stepC 1 c q with
    | none => rw [e] at h; cases h
    | some c1 =>
      rw [e] at h
      have := ih (inv1_step I e) h
      rw [List.reverse_cons, List.append_assoc]
      exact this
theorem step1_none {c : Cs} {q : Q2} (h : stepC 1 c q = none) {n d : Int} (n0 : 0 ≤ n) (n1 : n ≤ d) : ev q n d ≤ 0 := by
  unfold stepC at h
  by_cases h1 : q.1 < 1
  · by_cases h2 : q.2 < 1
    · have a := Int.mul_nonneg (show 0 ≤ -q.1 by omega) (show 0 ≤ d - n by omega)
      have b := Int.mul_nonneg (show 0 ≤ -q.2 by omega) n0
      unfold ev
      rw [Int.neg_mul] at a b
      omega
    · rw [if_pos h1, if_neg h2] at h
      split at h <;> cases h
  · rw [if_neg h1] at h
    split at h <;> cases h
theorem clip1_none {ps qs : List Q2} : ∀ {c : Cs}, Inv1 ps c → clipC 1 c qs = none → ∀ n d : Int, 0 < d → 0 ≤ n → n ≤ d → ∃ q ∈ qs.reverse ++ ps, ev q n d ≤ 0 := by
  induction qs generalizing ps with
  | nil =>
    intro c I h n d hd n0 n1
    unfold clipC at h
    split at h
    · rename_i hf
      by_cases k : ∀ q ∈ ps, 0 < ev q n d
      · exfalso
        obtain ⟨⟨a, b⟩, s⟩ := I.all n d hd n0 n1 k
        have hu := I.u
        have ho := I.o
        by_cases z : c.l = 0
        · rw [z, Int.zero_mul] at hf
          have := Int.mul_pos I.h0 hu
          omega
        · have x := Int.mul_lt_mul_of_pos_right (s z) ho
          have y := Int.mul_le_mul_of_nonneg_right b (Int.le_of_lt hu)
          have z : d * (c.l * c.o) < d * (c.h * c.u) := by grind
          have := Int.lt_of_mul_lt_mul_left z (Int.le_of_lt hd)
          omega
      · obtain ⟨q, hq⟩ := Classical.not_forall.mp k
        obtain ⟨hq1, hq2⟩ := Classical.not_imp.mp hq
        exact ⟨q, by simpa using hq1, by omega⟩
    · cases h
  | cons q r ih =>
    intro c I h n d hd n0 n1
    unfold clipC at h
    rw [List.reverse_cons, List.append_assoc]
    cases e : stepC 1 c q with
    | none => exact ⟨q, by simp, step1_none e n0 n1⟩
    | some c1 =>
      rw [e] at h
      exact ih (inv1_step I e) h n d hd n0 n1
theorem clip1_iff {qs : List Q2} : (clipC 1 start qs).isSome = true ↔ ∃ n d : Int, 0 < d ∧ 0 ≤ n ∧ n ≤ d ∧ ∀ q ∈ qs, 0 < ev q n d := by
  cases e : clipC 1 start qs with
  | none =>
    refine ⟨(fun h => nomatch h), fun ⟨n, d, hd, n0, n1, h⟩ => ?_⟩
    obtain ⟨q, hq, k⟩ := clip1_none inv1_start e n d hd n0 n1
    have := h q (by simpa using hq)
    omega
  | some c =>
    obtain ⟨I, hf⟩ := clip1_some inv1_start e
    rw [List.append_nil] at I
    have hu := I.u
    have ho := I.o
    refine ⟨fun _ => ⟨c.l * c.o + c.h * c.u, 2 * (c.u * c.o), ?_, ?_, ?_, fun q hq => I.ok q (by simpa using hq) _ _ ?_ ?_ ?_⟩, fun _ => rfl⟩
    · have := Int.mul_pos hu ho
      omega
    · have a := Int.mul_nonneg I.l0 (Int.le_of_lt ho)
      have b := Int.mul_nonneg (Int.le_of_lt I.h0) (Int.le_of_lt hu)
      omega
    · have a := Int.mul_le_mul_of_nonneg_right (Int.le_of_lt I.lu) (Int.le_of_lt ho)
      have b := Int.mul_le_mul_of_nonneg_right I.ho (Int.le_of_lt hu)
      rw [Int.mul_comm c.o c.u] at b
      omega
    · have := Int.mul_pos hu ho
      omega
    · have := Int.mul_lt_mul_of_pos_right hf hu
      grind
    · have := Int.mul_lt_mul_of_pos_right hf ho
      grind
/-- a single point -/
theorem clip0_pt {vs : List Int} : (clipC 0 start (vs.map fun v => (v, v))).isSome = true ↔ ∀ v ∈ vs, 0 ≤ v := by
  rw [clip0_iff]
  have e : ∀ (v n d : Int), ev (v, v) n d = v * d := fun v n d => by unfold ev; grind
  constructor
  · rintro ⟨n, d, hd, _, _, h⟩ v hv
    have := h (v, v) (List.mem_map.mpr ⟨v, hv, rfl⟩)
    rw [e, Int.mul_comm] at this
    exact nonneg_of_mul hd this
  · intro h
    refine ⟨0, 1, by decide, by decide, by decide, fun q hq => ?_⟩
    obtain ⟨v, hv, rfl⟩ := List.mem_map.mp hq
    rw [e, Int.mul_one]
    exact h v hv
theorem clip1_pt {vs : List Int} : (clipC 1 start (vs.map fun v => (v, v))).isSome = true ↔ ∀ v ∈ vs, 0 < v := by
  rw [clip1_iff]
  have e : ∀ (v n d : Int), ev (v, v) n d = v * d := fun v n d => by unfold ev; grind
  constructor
  · rintro ⟨n, d, hd, _, _, h⟩ v hv
    have := h (v, v) (List.mem_map.mpr ⟨v, hv, rfl⟩)
    rw [e, Int.mul_comm] at this
    exact pos_of_mul hd this
  · intro h
    refine ⟨0, 1, by decide, by decide, by decide, fun q hq => ?_⟩
    obtain ⟨v, hv, rfl⟩ := List.mem_map.mp hq
    rw [e, Int.mul_one]
    exact h v hv
end GM

/-! GM8: the half planes of a polygon; segments and polygons. -/
namespace GM
def minZ (b : Int) (l : List Int) : Int := l.foldl (fun a n => if n < a then n else a) b
def maxZ (b : Int) (l : List Int) : Int := l.foldl (fun a n => if n > a then n else a) b
theorem minZ_is : ∀ (l : List Int) (b : Int), (minZ b l = b ∨ minZ b l ∈ l) ∧ minZ b l ≤ b ∧ ∀ y ∈ l, minZ b l ≤ y
  | [], b => ⟨.inl rfl, Int.le_refl _, (fun _ h => nomatch h)⟩
  | n :: l, b => by
    obtain ⟨h1, h2, h3⟩ := minZ_is l (if n < b then n else b)
    have e : minZ b (n :: l) = minZ (if n < b then n else b) l := rfl
    have hb : (if n < b then n else b) ≤ b ∧ (if n < b then n else b) ≤ n := by split <;> omega
    rw [e]
    refine ⟨?_, ?_, fun y hy => ?_⟩
    · rcases h1 with h1 | h1
      · rw [h1]
        split
        · exact .inr List.mem_cons_self
        · exact .inl rfl
      · exact .inr (List.mem_cons_of_mem _ h1)
    · omega
    · rcases List.mem_cons.mp hy with rfl | hy
      · omega
      · exact h3 y hy
theorem maxZ_is : ∀ (l : List Int) (b : Int), (maxZ b l = b ∨ maxZ b l ∈ l) ∧ b ≤ maxZ b l ∧ ∀ y ∈ l, y ≤ maxZ b l
  | [], b => ⟨.inl rfl, Int.le_refl _, (fun _ h => nomatch h)⟩
  | n :: l, b => by
    obtain ⟨h1, h2, h3⟩ := maxZ_is l (if n > b then n else b)
    have e : maxZ b (n :: l) = maxZ (if n > b then n else b) l := rfl
    have hb : b ≤ (if n > b then n else b) ∧ n ≤ (if n > b then n else b) := by split <;> omega
    rw [e]
    refine ⟨?_, ?_, fun y hy => ?_⟩
    · rcases h1 with h1 | h1
      · rw [h1]
        split
        · exact .inr List.mem_cons_self
        · exact .inl rfl
      · exact .inr (List.mem_cons_of_mem _ h1)
    · omega
    · rcases List.mem_cons.mp hy with rfl | hy
      · omega
      · exact h3 y hy
def lo : List Int → Int
  | [] => 0
  | n :: l => minZ n l
def hi : List Int → Int
  | [] => 0
  | n :: l => maxZ n l
theorem lo_is {l : List Int} (h : 0 < l.length) : lo l ∈ l ∧ ∀ y ∈ l, lo l ≤ y := by
  cases l with
  | nil => simp at h
  | cons n l =>
    obtain ⟨h1, h2, h3⟩ := minZ_is l n
    show minZ n l ∈ n :: l ∧ ∀ y ∈ n :: l, minZ n l ≤ y
    refine ⟨?_, fun y hy => ?_⟩
    · rcases h1 with h1 | h1
      · rw [h1]; exact List.mem_cons_self
      · exact List.mem_cons_of_mem _ h1
    · rcases List.mem_cons.mp hy with rfl | hy
      · exact h2
      · exact h3 y hy
theorem hi_is {l : List Int} (h : 0 < l.length) : hi l ∈ l ∧ ∀ y ∈ l, y ≤ hi l := by
  cases l with
  | nil => simp at h
  | cons n l =>
    obtain ⟨h1, h2, h3⟩ := maxZ_is l n
    show maxZ n l ∈ n :: l ∧ ∀ y ∈ n :: l, y ≤ maxZ n l
    refine ⟨?_, fun y hy => ?_⟩
    · rcases h1 with h1 | h1
      · rw [h1]; exact List.mem_cons_self
      · exact List.mem_cons_of_mem _ h1
    · rcases List.mem_cons.mp hy with rfl | hy
      · exact h2
      · exact h3 y hy
def xsQ (H : List P2) : List Int := H.map fun q => q.1
def ysQ (H : List P2) : List Int := H.map fun q => q.2
def boxF (H : List P2) : List Fn := [(1, 0, lo (xsQ H)), (-1, 0, -hi (xsQ H)), (0, 1, lo (ysQ H)), (0, -1, -hi (ysQ H))]
def gcdZ (u v : Int) : Int := ((Nat.gcd u.natAbs v.natAbs : Nat) : Int)
def lowP (u v : Int) : Int × Int := (u / gcdZ u v, v / gcdZ u v)
def sideF (q : P2 × P2) : Fn := ((lowP (q.1.2 - q.2.2) (q.2.1 - q.1.1)).1, (lowP (q.1.2 - q.2.2) (q.2.1 - q.1.1)).2, (lowP (q.1.2 - q.2.2) (q.2.1 - q.1.1)).1 * q.1.1 + (lowP (q.1.2 - q.2.2) (q.2.1 - q.1.1)).2 * q.1.2)
def sidesQ (H : List P2) : List (P2 × P2) := H.zip (H.drop 1 ++ H.take 1)
def addU (ps : List Fn) (f : Fn) : List Fn := if f ∈ ps then ps else ps ++ [f]
def planesP (H : List P2) : List Fn := (if 1 < H.length then sidesQ H else []).foldl (fun ps q => addU ps (sideF q)) ((boxF H).foldl addU [])
theorem addU_mem {ps : List Fn} {f g : Fn} : g ∈ addU ps f ↔ g ∈ ps ∨ g = f := by
  unfold addU
  split
  · rename_i h
    exact ⟨.inl, fun k => k.elim id fun e => by rw [e]; exact h⟩
  · rw [List.mem_append, List.mem_singleton]
theorem addU_len (ps : List Fn) (f : Fn) : (addU ps f).length ≤ ps.length + 1 := by
  unfold addU
  split
  · omega
  · rw [List.length_append, List.length_singleton]
    omega
theorem foldU_mem {α : Type} {k : α → Fn} {g : Fn} : ∀ {l : List α} {ps : List Fn}, g ∈ l.foldl (fun ps q => addU ps (k q)) ps ↔ g ∈ ps ∨ ∃ q ∈ l, g = k q
  | [], ps => by simp
  | a :: l, ps => by
    rw [List.foldl_cons, foldU_mem, addU_mem]
    simp only [List.mem_cons]
    constructor
    · rintro ((h | h) | ⟨q, hq, e⟩)
      · exact .inl h
      · exact .inr ⟨a, .inl rfl, h⟩
      · exact .inr ⟨q, .inr hq, e⟩
    · rintro (h | ⟨q, rfl | hq, e⟩)
      · exact .inl (.inl h)
      · exact .inl (.inr e)
      · exact .inr ⟨q, hq, e⟩
theorem planes_mem {H : List P2} {f : Fn} : f ∈ planesP H ↔ f ∈ boxF H ∨ (1 < H.length ∧ ∃ q ∈ sidesQ H, f = sideF q) := by
  unfold planesP
  rw [foldU_mem, foldU_mem (k := fun f => f)]
  split
  · rename_i h
    simp [h]
  · rename_i h
    simp [h]
theorem sidesQ_get {H : List P2} {i : Nat} (hi : i < H.length) : (sidesQ H)[i]? = some (nth H i, nth H (nxt H i)) := by
  have g : ∀ {k : Nat} (hk : k < H.length), H[k]? = some (nth H k) := fun {k} hk => by
    unfold nth
    rw [List.getD_eq_getElem?_getD, List.getElem?_eq_getElem hk]
    rfl
  unfold sidesQ
  rw [List.getElem?_zip_eq_some]
  refine ⟨g hi, ?_⟩
  unfold nxt
  by_cases h : i + 1 = H.length
  · rw [if_pos h, List.getElem?_append_right (by rw [List.length_drop]; omega), List.length_drop, List.getElem?_take_of_lt (by omega)]
    rw [show i - (H.length - 1) = 0 by omega]
    exact g (by omega)
  · rw [if_neg h, List.getElem?_append_left (by rw [List.length_drop]; omega), List.getElem?_drop, show 1 + i = i + 1 by omega]
    exact g (by omega)
theorem sidesQ_len (H : List P2) : (sidesQ H).length = H.length := by
  unfold sidesQ
  rw [List.length_zip, List.length_append, List.length_drop, List.length_take]
  omega
theorem sidesQ_mem {H : List P2} {q : P2 × P2} : q ∈ sidesQ H ↔ ∃ i, i < H.length ∧ q = (nth H i, nth H (nxt H i)) := by
  constructor
  · intro h
    obtain ⟨i, hi⟩ := List.getElem?_of_mem h
    have hl : i < H.length := by
      have := (List.getElem?_eq_some_iff.mp hi).1
      rw [sidesQ_len] at this
      exact this
    refine ⟨i, hl, ?_⟩
    rw [sidesQ_get hl] at hi
    exact (Option.some.inj hi).symm
  · rintro ⟨i, hi, rfl⟩
    exact List.mem_of_getElem? (sidesQ_get hi)
theorem gcdZ_pos {u v : Int} (h : u ≠ 0 ∨ v ≠ 0) : 0 < gcdZ u v := by
  unfold gcdZ
  have : 0 < Nat.gcd u.natAbs v.natAbs := by
    rcases h with h | h
    · exact Nat.gcd_pos_of_pos_left _ (by omega)
    · exact Nat.gcd_pos_of_pos_right _ (by omega)
  omega
theorem gcdZ_mul {u v : Int} (h : u ≠ 0 ∨ v ≠ 0) : gcdZ u v * (lowP u v).1 = u ∧ gcdZ u v * (lowP u v).2 = v := by
  have d1 : gcdZ u v ∣ u := Int.natAbs_dvd_natAbs.mp (by unfold gcdZ; rw [Int.natAbs_natCast]; exact Nat.gcd_dvd_left _ _)
  have d2 : gcdZ u v ∣ v := Int.natAbs_dvd_natAbs.mp (by unfold gcdZ; rw [Int.natAbs_natCast]; exact Nat.gcd_dvd_right _ _)
  exact ⟨Int.mul_ediv_cancel' d1, Int.mul_ediv_cancel' d2⟩
/-- a side's plane is a part of its turn -/
theorem sideF_mul {a b : P2} (h : a ≠ b) : ∃ g : Int, 0 < g ∧ (∀ f : Fn, f = sideF (a, b) → g * f.1 = a.2 - b.2 ∧ g * f.2.1 = b.1 - a.1 ∧ f.2.2 = f.1 * a.1 + f.2.1 * a.2) := by
  have hn : a.2 - b.2 ≠ 0 ∨ b.1 - a.1 ≠ 0 := by
    by_cases k : a.1 = b.1
    · left
      intro z
      exact h (Prod.ext k (by omega))
    · right
      omega
  refine ⟨gcdZ (a.2 - b.2) (b.1 - a.1), gcdZ_pos hn, fun f e => ?_⟩
  obtain ⟨e1, e2⟩ := gcdZ_mul hn
  rw [e]
  exact ⟨e1, e2, rfl⟩
/-- at a scale: a plane's value -/
def pvw (f : Fn) (x y w : Int) : Int := f.1 * x + f.2.1 * y - f.2.2 * w
theorem pvw_cv (f : Fn) (x y w : Int) : pvw f x y w = cv (f.1, f.2.1, w * f.2.2) (x, y) := by
  unfold pvw cv
  simp only []
  grind
theorem sideF_area {a b : P2} (h : a ≠ b) : ∃ g : Int, 0 < g ∧ ∀ x y w, area (sc w a) (sc w b) (x, y) = w * (g * pvw (sideF (a, b)) x y w) := by
  obtain ⟨g, hg, k⟩ := sideF_mul h
  obtain ⟨e1, e2, e3⟩ := k _ rfl
  refine ⟨g, hg, fun x y w => ?_⟩
  have : g * pvw (sideF (a, b)) x y w = (a.2 - b.2) * x + (b.1 - a.1) * y - ((a.2 - b.2) * a.1 + (b.1 - a.1) * a.2) * w := by
    unfold pvw
    rw [e3, ← e1, ← e2]
    grind
  rw [this]
  unfold area sc
  simp only []
  grind
section
variable {H : List P2}
theorem nxt_ne (hH : IsHull H H) (h1 : 1 < H.length) {i : Nat} (hi : i < H.length) : nth H i ≠ nth H (nxt H i) := fun e => by
  have := nth_inj hH.nd hi (nxt_lt hi) e
  unfold nxt at this
  split at this <;> omega
theorem xs_mem {h : P2} (hh : h ∈ H) : h.1 ∈ xsQ H := List.mem_map.mpr ⟨h, hh, rfl⟩
theorem ys_mem {h : P2} (hh : h ∈ H) : h.2 ∈ ysQ H := List.mem_map.mpr ⟨h, hh, rfl⟩
theorem xs_len : (xsQ H).length = H.length := List.length_map ..
theorem ys_len : (ysQ H).length = H.length := List.length_map ..
/-- the planes have all corners, and a direction -/
theorem plane_ok (hH : IsHull H H) {f : Fn} (hf : f ∈ planesP H) : (∀ h ∈ H, 0 ≤ cv f h) ∧ (f.1 ≠ 0 ∨ f.2.1 ≠ 0) := by
  have h0 := hH.pos
  have lx := lo_is (l := xsQ H) (by rw [xs_len]; exact h0)
  have hx := hi_is (l := xsQ H) (by rw [xs_len]; exact h0)
  have ly := lo_is (l := ysQ H) (by rw [ys_len]; exact h0)
  have hy := hi_is (l := ysQ H) (by rw [ys_len]; exact h0)
  rcases planes_mem.mp hf with h | ⟨h1, q, hq, rfl⟩
  · unfold boxF at h
    simp only [List.mem_cons, List.not_mem_nil, or_false] at h
    rcases h with rfl | rfl | rfl | rfl
    · refine ⟨fun h hh => ?_, .inl (show (1 : Int) ≠ 0 by decide)⟩
      have := lx.2 _ (xs_mem hh)
      unfold cv
      simp only []
      omega
    · refine ⟨fun h hh => ?_, .inl (show (-1 : Int) ≠ 0 by decide)⟩
      have := hx.2 _ (xs_mem hh)
      unfold cv
      simp only []
      omega
    · refine ⟨fun h hh => ?_, .inr (show (1 : Int) ≠ 0 by decide)⟩
      have := ly.2 _ (ys_mem hh)
      unfold cv
      simp only []
      omega
    · refine ⟨fun h hh => ?_, .inr (show (-1 : Int) ≠ 0 by decide)⟩
      have := hy.2 _ (ys_mem hh)
      unfold cv
      simp only []
      omega
  · obtain ⟨i, hi, rfl⟩ := sidesQ_mem.mp hq
    have hne := nxt_ne hH h1 hi
    obtain ⟨g, hg, k⟩ := sideF_area hne
    refine ⟨fun h hh => ?_, ?_⟩
    · have e := k h.1 h.2 1
      rw [sc_one, sc_one, Int.one_mul, pvw_cv] at e
      have e : area (nth H i) (nth H (nxt H i)) h = _ := e
      have := edge_nonneg (hH.edge hi) hh
      have e2 : cv ((sideF (nth H i, nth H (nxt H i))).1, (sideF (nth H i, nth H (nxt H i))).2.1, 1 * (sideF (nth H i, nth H (nxt H i))).2.2) (h.1, h.2) = cv (sideF (nth H i, nth H (nxt H i))) h := by
        unfold cv
        simp only [Int.one_mul]
      rw [e2] at e
      exact nonneg_of_mul hg (by omega)
    · obtain ⟨g2, hg2, k2⟩ := sideF_mul hne
      obtain ⟨e1, e2, _⟩ := k2 _ rfl
      by_cases z : (nth H i).1 = (nth H (nxt H i)).1
      · left
        intro w
        rw [w, Int.mul_zero] at e1
        exact hne (Prod.ext z (by omega))
      · right
        intro w
        rw [w, Int.mul_zero] at e2
        omega
theorem plane_sc (hH : IsHull H H) {f : Fn} (hf : f ∈ planesP H) {w : Int} (hw : 0 < w) : ∀ h ∈ scL w H, 0 ≤ cv (f.1, f.2.1, w * f.2.2) h := fun h hh => by
  obtain ⟨q, hq, rfl⟩ := mem_sc.mp hh
  rw [cv_sc]
  exact Int.mul_nonneg (Int.le_of_lt hw) ((plane_ok hH hf).1 q hq)
theorem planes_in (hH : IsHull H H) {x y w : Int} (hw : 0 < w) : (∀ f ∈ planesP H, 0 ≤ pvw f x y w) ↔ In (scL w H) (x, y) := by
  have h0 := hH.pos
  constructor
  · intro h
    have bx : ∀ f ∈ boxF H, 0 ≤ pvw f x y w := fun f hf => h f (planes_mem.mpr (.inl hf))
    unfold boxF at bx
    simp only [List.mem_cons, List.not_mem_nil, or_false, forall_eq_or_imp, forall_eq] at bx
    unfold pvw at bx
    simp only [] at bx
    obtain ⟨b1, b2, b3, b4⟩ := bx
    have lx := lo_is (l := xsQ H) (by rw [xs_len]; exact h0)
    have hx := hi_is (l := xsQ H) (by rw [xs_len]; exact h0)
    have ly := lo_is (l := ysQ H) (by rw [ys_len]; exact h0)
    have hy := hi_is (l := ysQ H) (by rw [ys_len]; exact h0)
    refine inP_In (hull_sc hw hH) (in_of (hull_sc hw hH) ?_ ?_ ?_ ?_ fun i hi => ?_)
    · obtain ⟨q, hq, e⟩ := List.mem_map.mp lx.1
      refine ⟨sc w q, mem_sc.mpr ⟨q, hq, rfl⟩, ?_⟩
      show w * q.1 ≤ x
      rw [e, Int.mul_comm]
      omega
    · obtain ⟨q, hq, e⟩ := List.mem_map.mp hx.1
      refine ⟨sc w q, mem_sc.mpr ⟨q, hq, rfl⟩, ?_⟩
      show x ≤ w * q.1
      rw [e, Int.mul_comm]
      rw [Int.neg_mul (hi (xsQ H))] at b2
      omega
    · obtain ⟨q, hq, e⟩ := List.mem_map.mp ly.1
      refine ⟨sc w q, mem_sc.mpr ⟨q, hq, rfl⟩, ?_⟩
      show w * q.2 ≤ y
      rw [e, Int.mul_comm]
      omega
    · obtain ⟨q, hq, e⟩ := List.mem_map.mp hy.1
      refine ⟨sc w q, mem_sc.mpr ⟨q, hq, rfl⟩, ?_⟩
      show y ≤ w * q.2
      rw [e, Int.mul_comm]
      rw [Int.neg_mul (hi (ysQ H))] at b4
      omega
    · rw [scL_len] at hi
      rw [nxt_sc, nth_sc w hi, nth_sc w (nxt_lt hi)]
      by_cases h1 : 1 < H.length
      · obtain ⟨g, hg, k⟩ := sideF_area (nxt_ne hH h1 hi)
        rw [k]
        exact Int.mul_nonneg (Int.le_of_lt hw) (Int.mul_nonneg (Int.le_of_lt hg) (h _ (planes_mem.mpr (.inr ⟨h1, _, sidesQ_mem.mpr ⟨i, hi, rfl⟩, rfl⟩))))
      · have e0 : i = 0 := by omega
        have e1 : nxt H i = i := by unfold nxt; rw [if_pos (by omega), e0]
        rw [e1, area_00]
        exact Int.le_refl _
  · intro h f hf
    rw [pvw_cv]
    exact h _ (plane_sc hH hf hw)
theorem planes_str (hH : IsHull H H) {x y w : Int} (hw : 0 < w) : (∀ f ∈ planesP H, 0 < pvw f x y w) ↔ Str (scL w H) (x, y) := by
  have h0 := hH.pos
  constructor
  · intro h
    by_cases h3 : 3 ≤ H.length
    · refine ⟨by rw [scL_len]; exact h3, fun i hi => ?_⟩
      rw [scL_len] at hi
      rw [nxt_sc, nth_sc w hi, nth_sc w (nxt_lt hi)]
      obtain ⟨g, hg, k⟩ := sideF_area (nxt_ne hH (by omega) hi)
      rw [k]
      exact Int.mul_pos hw (Int.mul_pos hg (h _ (planes_mem.mpr (.inr ⟨by omega, _, sidesQ_mem.mpr ⟨i, hi, rfl⟩, rfl⟩))))
    · exfalso
      by_cases h1 : H.length = 1
      · have bx : ∀ f ∈ boxF H, 0 < pvw f x y w := fun f hf => h f (planes_mem.mpr (.inl hf))
        unfold boxF at bx
        simp only [List.mem_cons, List.not_mem_nil, or_false, forall_eq_or_imp, forall_eq] at bx
        unfold pvw at bx
        simp only [] at bx
        obtain ⟨b1, b2, _, _⟩ := bx
        have lx := lo_is (l := xsQ H) (by rw [xs_len]; exact h0)
        have hx := hi_is (l := xsQ H) (by rw [xs_len]; exact h0)
        obtain ⟨q, hq, e⟩ := List.mem_map.mp lx.1
        obtain ⟨r, hr, e2⟩ := List.mem_map.mp hx.1
        have : lo (xsQ H) = hi (xsQ H) := by
          rw [← e, ← e2, mem1 h1 hq, mem1 h1 hr]
        rw [this] at b1
        rw [Int.neg_mul (hi (xsQ H))] at b2
        omega
      · have h2 : H.length = 2 := by omega
        have s := fun i (hi : i < H.length) => h _ (planes_mem.mpr (.inr ⟨by omega, _, sidesQ_mem.mpr ⟨i, hi, rfl⟩, rfl⟩))
        have s0 := s 0 (by omega)
        have s1 := s 1 (by omega)
        obtain ⟨g0, hg0, k0⟩ := sideF_area (nxt_ne hH (by omega) (show 0 < H.length by omega))
        obtain ⟨g1, hg1, k1⟩ := sideF_area (nxt_ne hH (by omega) (show 1 < H.length by omega))
        have n0 : nxt H 0 = 1 := by unfold nxt; rw [if_neg (by omega)]
        have n1 : nxt H 1 = 0 := by unfold nxt; rw [if_pos (by omega)]
        have a0 := Int.mul_pos hw (Int.mul_pos hg0 s0)
        have a1 := Int.mul_pos hw (Int.mul_pos hg1 s1)
        rw [← k0, n0] at a0
        rw [← k1, n1, area_sw] at a1
        omega
  · intro h f hf
    rw [pvw_cv]
    exact h.pos (hull_sc hw hH) (plane_ok hH hf).2 (plane_sc hH hf hw)
end
end GM

/-! GM9: a segment and a polygon, two polygons, that have a point in common. -/
namespace GM
/-- the pair of values of a plane at both ends -/
def vp (f : Fn) (a b : P2) : Q2 := (cv f a, cv f b)
theorem planes_in1 {H : List P2} (hH : IsHull H H) {p : P2} : (∀ f ∈ planesP H, 0 ≤ cv f p) ↔ In H p := by
  have := planes_in hH (x := p.1) (y := p.2) (w := 1) (by decide)
  rw [scL_one] at this
  have e : ∀ f : Fn, pvw f p.1 p.2 1 = cv f p := fun f => by unfold pvw cv; omega
  simp only [e] at this
  exact this
theorem planes_inu {H : List P2} (hH : IsHull H H) {a b : P2} {l u : Int} (hu : 0 < u) : (∀ f ∈ planesP H, 0 ≤ ev (vp f a b) l u) ↔ In (scL u H) ((u - l) * a.1 + l * b.1, (u - l) * a.2 + l * b.2) := by
  rw [← planes_in hH hu]
  have e : ∀ f : Fn, pvw f ((u - l) * a.1 + l * b.1) ((u - l) * a.2 + l * b.2) u = ev (vp f a b) l u := fun f => by
    unfold pvw ev vp cv
    simp only []
    grind
  simp only [e]
theorem planes_stru {H : List P2} (hH : IsHull H H) {a b : P2} {l u : Int} (hu : 0 < u) : (∀ f ∈ planesP H, 0 < ev (vp f a b) l u) ↔ Str (scL u H) ((u - l) * a.1 + l * b.1, (u - l) * a.2 + l * b.2) := by
  rw [← planes_str hH hu]
  have e : ∀ f : Fn, pvw f ((u - l) * a.1 + l * b.1) ((u - l) * a.2 + l * b.2) u = ev (vp f a b) l u := fun f => by
    unfold pvw ev vp cv
    simp only []
    grind
  simp only [e]
theorem seg_at {a b : P2} {l u : Int} (h0 : 0 ≤ l) (h1 : l ≤ u) : Seg ((u - l) * a.1 + l * b.1, (u - l) * a.2 + l * b.2) (sc u a) (sc u b) := by
  have := seg_comb (a := a) (b := b) (x := ((u - l) * a.1 + l * b.1, (u - l) * a.2 + l * b.2)) (m := u - l) (n := l) (by omega) h0 rfl rfl
  rw [show u - l + l = u by omega] at this
  exact this
theorem mem_vp {H : List P2} {a b : P2} {q : Q2} : q ∈ (planesP H).map (fun f => vp f a b) ↔ ∃ f ∈ planesP H, vp f a b = q := List.mem_map
/-- on the way into a polygon a side is come to -/
theorem first_side {H : List P2} (hH : IsHull H H) {a x : P2} (hx : In H x) (ha : ¬ In H a) : ∃ (u : Int) (y : P2) (j : Nat), 0 < u ∧ Seg y (sc u a) (sc u x) ∧ In (scL u H) y ∧ j < H.length ∧ Seg y (sc u (nth H j)) (sc u (nth H (nxt H j))) := by
  have hs : (clipC 0 start ((planesP H).map fun f => vp f a x)).isSome = true := clip0_iff.mpr ⟨1, 1, by decide, by decide, by decide, fun q hq => by
    obtain ⟨f, hf, rfl⟩ := mem_vp.mp hq
    have := (planes_in1 hH).mpr hx f hf
    unfold ev vp
    omega⟩
  obtain ⟨c, hc⟩ := Option.isSome_iff_exists.mp hs
  obtain ⟨⟨u0, _, l0, lu, _⟩, hl, _, hz⟩ := clip0 hc
  have hin : In (scL c.u H) ((c.u - c.l) * a.1 + c.l * x.1, (c.u - c.l) * a.2 + c.l * x.2) := (planes_inu hH u0).mp fun f hf => hl _ (mem_vp.mpr ⟨f, hf, rfl⟩)
  rcases hz with hz | ⟨q, hq, e, _⟩
  · exfalso
    refine ha ((planes_in1 hH).mp fun f hf => ?_)
    have := hl _ (mem_vp.mpr ⟨f, hf, rfl⟩)
    rw [hz] at this
    have e : ev (vp f a x) 0 c.u = c.u * cv f a := by unfold ev vp; grind
    rw [e] at this
    exact nonneg_of_mul u0 this
  · obtain ⟨f, hf, rfl⟩ := mem_vp.mp hq
    have hn : ¬ Str (scL c.u H) ((c.u - c.l) * a.1 + c.l * x.1, (c.u - c.l) * a.2 + c.l * x.2) := fun h => by
      have := (planes_stru hH u0).mpr h f hf
      omega
    obtain ⟨j, hj, hsg⟩ := on_side (hull_sc u0 hH) hin hn
    rw [scL_len] at hj
    rw [nxt_sc, nth_sc _ hj, nth_sc _ (nxt_lt hj)] at hsg
    exact ⟨c.u, _, j, u0, seg_at l0 lu, hin, hj, hsg⟩
theorem in_along {H : List P2} {a b x : P2} (ha : In H a) (hb : In H b) (h : Seg x a b) : In H x := fun f hf => seg_nonneg h (ha f hf) (hb f hf)
/-- a segment and a polygon -/
theorem seg_meets {H : List P2} (hH : IsHull H H) {a b : P2} : (∃ k x, 0 < k ∧ Seg x (sc k a) (sc k b) ∧ In (scL k H) x) ↔ In H a ∨ In H b ∨ ∃ i, i < H.length ∧ meetP a b (nth H i) (nth H (nxt H i)) := by
  constructor
  · rintro ⟨k, x, hk, hs, hx⟩
    by_cases ha : In H a
    · exact .inl ha
    · obtain ⟨u, y, j, hu, h1, h2, h3, h4⟩ := first_side (hull_sc hk hH) hx (fun z => ha ((in_sc hk).mp z))
      rw [scL_len] at h3
      rw [nxt_sc, nth_sc _ h3, nth_sc _ (nxt_lt h3), sc_sc, sc_sc] at h4
      refine .inr (.inr ⟨j, h3, (meet_sc (Int.mul_pos hu hk)).mp (meet_of (x := y) ?_ h4)⟩)
      rw [sc_sc] at h1
      -- y lies on the part from a to x
      have e1 : Seg (sc u x) (sc (u * k) a) (sc (u * k) b) := by
        rw [← sc_sc, ← sc_sc]
        exact (seg_sc hu).mpr hs
      -- .. a part of the whole
      obtain ⟨m, n, hm, hn, hmn, e⟩ := seg_share h1
      obtain ⟨m', n', hm', hn', hmn', e'⟩ := seg_share e1
      have hz : area (sc (u * k) a) (sc (u * k) b) y = 0 := by
        have t1 := e (side (sc (u * k) a) (sc (u * k) b))
        have t2 := e' (side (sc (u * k) a) (sc (u * k) b))
        rw [cv_side, cv_side, cv_side, area_aa, Int.mul_zero, Int.zero_add] at t1
        rw [cv_side, cv_side, cv_side, area_aa, area_ab, Int.mul_zero, Int.mul_zero, Int.add_zero] at t2
        have t3 := zero_of_mul hmn' t2
        rw [t3, Int.mul_zero] at t1
        exact zero_of_mul hmn t1
      have bw : ∀ {p q w z : Int}, Bw p w z → Bw p q w → Bw p q z := fun h1 h2 => by unfold Bw at *; omega
      exact ⟨hz, bw e1.2.1 h1.2.1, bw e1.2.2 h1.2.2⟩
  · rintro (h | h | ⟨i, hi, h⟩)
    · exact ⟨1, a, by decide, by rw [sc_one, sc_one]; exact seg_left a b, by rw [scL_one]; exact h⟩
    · exact ⟨1, b, by decide, by rw [sc_one, sc_one]; exact seg_right a b, by rw [scL_one]; exact h⟩
    · obtain ⟨k, x, hk, h1, h2⟩ := meet_common h
      refine ⟨k, x, hk, h1, in_seg (mem_sc.mpr ⟨_, nth_mem hi, rfl⟩) (mem_sc.mpr ⟨_, nth_mem (nxt_lt hi), rfl⟩) h2⟩
/-- two polygons -/
theorem polys_meet {A B : List P2} (hA : IsHull A A) (hB : IsHull B B) : (∃ k x, 0 < k ∧ In (scL k A) x ∧ In (scL k B) x) ↔ (∃ a ∈ A, In B a) ∨ (∃ b ∈ B, In A b) ∨ ∃ i, i < A.length ∧ ∃ j, j < B.length ∧ meetP (nth A i) (nth A (nxt A i)) (nth B j) (nth B (nxt B j)) := by
  have msym : ∀ {a b c d : P2}, meetP a b c d → meetP c d a b := fun {a b c d} h => by
    obtain ⟨k, x, hk, h1, h2⟩ := meet_common h
    exact meet_iff.mpr ⟨k, x, hk, h2, h1⟩
  constructor
  · rintro ⟨k, x, hk, h1, h2⟩
    by_cases ha : In B (nth A 0)
    · exact .inl ⟨_, nth_mem hA.pos, ha⟩
    · obtain ⟨u, y, j, hu, s1, s2, hj, s3⟩ := first_side (hull_sc hk hB) (a := sc k (nth A 0)) h2 (fun z => ha ((in_sc hk).mp z))
      rw [scL_len] at hj
      rw [nxt_sc, nth_sc _ hj, nth_sc _ (nxt_lt hj), sc_sc, sc_sc] at s3
      have hy : In (scL (u * k) A) y := by
        refine in_along (a := sc u (sc k (nth A 0))) (b := sc u x) ?_ ?_ s1
        · rw [← scL_scL, in_sc hu, in_sc hk]
          exact in_self (nth_mem hA.pos)
        · rw [← scL_scL, in_sc hu]
          exact h1
      rcases (seg_meets hA).mp ⟨u * k, y, Int.mul_pos hu hk, s3, hy⟩ with h | h | ⟨i, hi, h⟩
      · exact .inr (.inl ⟨_, nth_mem hj, h⟩)
      · exact .inr (.inl ⟨_, nth_mem (nxt_lt hj), h⟩)
      · exact .inr (.inr ⟨i, hi, j, hj, msym h⟩)
  · rintro (⟨a, ha, h⟩ | ⟨b, hb, h⟩ | ⟨i, hi, j, hj, h⟩)
    · exact ⟨1, a, by decide, by rw [scL_one]; exact in_self ha, by rw [scL_one]; exact h⟩
    · exact ⟨1, b, by decide, by rw [scL_one]; exact h, by rw [scL_one]; exact in_self hb⟩
    · obtain ⟨k, x, hk, h1, h2⟩ := meet_common h
      exact ⟨k, x, hk, in_seg (mem_sc.mpr ⟨_, nth_mem hi, rfl⟩) (mem_sc.mpr ⟨_, nth_mem (nxt_lt hi), rfl⟩) h1, in_seg (mem_sc.mpr ⟨_, nth_mem hj, rfl⟩) (mem_sc.mpr ⟨_, nth_mem (nxt_lt hj), rfl⟩) h2⟩
end GM

/-! GM10: points as shares of corners; sums; what separates. -/
namespace GM
/-- shares of three corners -/
theorem in_comb {H : List P2} (hH : IsHull H H) {p : P2} (h : In H p) : ∃ (i j k : Int) (a b c : P2), 0 ≤ i ∧ 0 ≤ j ∧ 0 ≤ k ∧ 0 < i + j + k ∧ a ∈ H ∧ b ∈ H ∧ c ∈ H ∧ (i + j + k) * p.1 = i * a.1 + j * b.1 + k * c.1 ∧ (i + j + k) * p.2 = i * a.2 + j * b.2 + k * c.2 := by
  have h0 := hH.pos
  have hp := In_inP hH h
  unfold inP at hp
  split at hp
  · rename_i hm
    obtain ⟨m, n, hm, hn, hk, e⟩ := seg_share hp
    have e1 := e (1, 0, 0)
    have e2 := e (0, 1, 0)
    unfold cv at e1 e2
    simp only [Int.zero_mul, Int.add_zero, Int.one_mul, Int.zero_add, Int.sub_zero] at e1 e2
    refine ⟨m, n, 0, nth H 0, nth H (H.length - 1), nth H 0, hm, hn, Int.le_refl _, by omega, nth_mem h0, nth_mem (by omega), nth_mem h0, ?_, ?_⟩
    · rw [Int.add_zero, Int.zero_mul, Int.add_zero]
      exact e1
    · rw [Int.add_zero, Int.zero_mul, Int.add_zero]
      exact e2
  · obtain ⟨k, k1, k2, t1, t2, t3⟩ := hp
    have hD := fan_pos hH k1 k2
    have sum : area (nth H k) (nth H (k + 1)) p + area (nth H (k + 1)) (nth H 0) p + area (nth H 0) (nth H k) p = area (nth H 0) (nth H k) (nth H (k + 1)) := by unfold area; grind
    have e1 := tri_id (1, 0, 0) (nth H 0) (nth H k) (nth H (k + 1)) p
    have e2 := tri_id (0, 1, 0) (nth H 0) (nth H k) (nth H (k + 1)) p
    unfold cv at e1 e2
    simp only [Int.zero_mul, Int.add_zero, Int.one_mul, Int.zero_add, Int.sub_zero] at e1 e2
    exact ⟨_, _, _, nth H 0, nth H k, nth H (k + 1), t2, t3, t1, by omega, nth_mem h0, nth_mem (by omega), nth_mem k2, by rw [sum]; exact e1, by rw [sum]; exact e2⟩
/-- a hull has the points of its corners' list -/
theorem in_of_hull {pts H : List P2} (h : IsHull pts H) {p : P2} (hp : p ∈ pts) : In H p := by
  have hH : IsHull H H := h.sub_pts h.sub fun _ hx => hx
  by_cases hm : H.length < 3
  · exact in_seg (nth_mem h.pos) (nth_mem (by have := h.pos; omega)) (h.seg hm hp)
  · refine inP_In hH ?_
    unfold inP
    rw [if_neg hm]
    exact tri (by omega) fun i hi => edge_nonneg (h.edge hi) hp
/-! ### sums -/
def addP (a b : P2) : P2 := (a.1 + b.1, a.2 + b.2)
def subP (a b : P2) : P2 := (a.1 - b.1, a.2 - b.2)
/-- a point of the sum: of the first polygon, and of the second one turned over and moved by the point -/
theorem sum_in {A B S M : List P2} {w : Int} {p : P2} (hw : 0 < w) (hB : ∀ b ∈ B, True) (hS : IsHull S S) (s1 : ∀ s ∈ S, ∃ a ∈ A, ∃ b ∈ B, s = addP a b) (s2 : ∀ a ∈ A, ∀ b ∈ B, In S (addP a b)) (a0 : 0 < A.length) (b0 : 0 < B.length)
    (hM1 : ∀ m ∈ M, ∃ b ∈ B, m = subP p (sc w b)) (hM2 : ∀ b ∈ B, In M (subP p (sc w b))) : In (scL w S) p ↔ ∃ k x, 0 < k ∧ In (scL k (scL w A)) x ∧ In (scL k M) x := by
  constructor
  · intro h
    obtain ⟨i, j, k, q1, q2, q3, hi, hj, hk, hs, m1, m2, m3, e1, e2⟩ := in_comb (hull_sc hw hS) h
    obtain ⟨t1, n1, rfl⟩ := mem_sc.mp m1
    obtain ⟨t2, n2, rfl⟩ := mem_sc.mp m2
    obtain ⟨t3, n3, rfl⟩ := mem_sc.mp m3
    obtain ⟨x1, hx1, y1, hy1, rfl⟩ := s1 _ n1
    obtain ⟨x2, hx2, y2, hy2, rfl⟩ := s1 _ n2
    obtain ⟨x3, hx3, y3, hy3, rfl⟩ := s1 _ n3
    unfold sc addP at e1 e2
    simp only [] at e1 e2
    refine ⟨i + j + k, (i * (w * x1.1) + j * (w * x2.1) + k * (w * x3.1), i * (w * x1.2) + j * (w * x2.2) + k * (w * x3.2)), hs, fun f hf => ?_, fun f hf => ?_⟩
    · have f1 := hf _ (mem_sc.mpr ⟨_, mem_sc.mpr ⟨_, hx1, rfl⟩, rfl⟩)
      have f2 := hf _ (mem_sc.mpr ⟨_, mem_sc.mpr ⟨_, hx2, rfl⟩, rfl⟩)
      have f3 := hf _ (mem_sc.mpr ⟨_, mem_sc.mpr ⟨_, hx3, rfl⟩, rfl⟩)
      refine nonneg_of_mul hs ?_
      have g1 := Int.mul_nonneg hi f1
      have g2 := Int.mul_nonneg hj f2
      have g3 := Int.mul_nonneg hk f3
      have : (i + j + k) * cv f (i * (w * x1.1) + j * (w * x2.1) + k * (w * x3.1), i * (w * x1.2) + j * (w * x2.2) + k * (w * x3.2)) = i * cv f (sc (i + j + k) (sc w x1)) + j * cv f (sc (i + j + k) (sc w x2)) + k * cv f (sc (i + j + k) (sc w x3)) := by
        unfold cv sc
        simp only []
        grind
      omega
    · -- the point less the shares of the second
      have mf : ∀ b ∈ B, 0 ≤ cv f (sc (i + j + k) (subP p (sc w b))) := fun b hb => by
        rw [cv_sc2]
        refine hM2 b hb _ fun m hm => ?_
        rw [← cv_sc2]
        exact hf _ (mem_sc.mpr ⟨m, hm, rfl⟩)
      have f1 := mf _ hy1
      have f2 := mf _ hy2
      have f3 := mf _ hy3
      refine nonneg_of_mul hs ?_
      have g1 := Int.mul_nonneg hi f1
      have g2 := Int.mul_nonneg hj f2
      have g3 := Int.mul_nonneg hk f3
      have : (i + j + k) * cv f (i * (w * x1.1) + j * (w * x2.1) + k * (w * x3.1), i * (w * x1.2) + j * (w * x2.2) + k * (w * x3.2)) = i * cv f (sc (i + j + k) (subP p (sc w y1))) + j * cv f (sc (i + j + k) (subP p (sc w y2))) + k * cv f (sc (i + j + k) (subP p (sc w y3))) := by
        unfold cv sc subP
        simp only []
        have a1 : i * (w * x1.1) + j * (w * x2.1) + k * (w * x3.1) = (i + j + k) * p.1 - (i * (w * y1.1) + j * (w * y2.1) + k * (w * y3.1)) := by rw [e1]; grind
        have a2 : i * (w * x1.2) + j * (w * x2.2) + k * (w * x3.2) = (i + j + k) * p.2 - (i * (w * y1.2) + j * (w * y2.2) + k * (w * y3.2)) := by rw [e2]; grind
        rw [a1, a2]
        grind
      omega
  · rintro ⟨k, x, hk, h1, h2⟩ f hf
    obtain ⟨a, ha, la⟩ := least_f (f.1, f.2.1, 0) a0
    obtain ⟨b, hb, lb⟩ := least_f (f.1, f.2.1, 0) b0
    have c1 := s2 a ha b hb
    -- the least of the sum
    have z : 0 ≤ cv f (sc w (addP a b)) := by
      rw [cv_sc2]
      refine c1 _ fun y hy => ?_
      rw [← cv_sc2]
      exact hf _ (mem_sc.mpr ⟨y, hy, rfl⟩)
    -- x is not below the first one's, the point less x not below the second one's
    have u1 := h1 (f.1, f.2.1, k * (w * cv (f.1, f.2.1, 0) a)) fun y hy => by
      obtain ⟨y1, hy1, rfl⟩ := mem_sc.mp hy
      obtain ⟨y2, hy2, rfl⟩ := mem_sc.mp hy1
      have := la y2 hy2
      have e : cv (f.1, f.2.1, k * (w * cv (f.1, f.2.1, 0) a)) (sc k (sc w y2)) = k * (w * (cv (f.1, f.2.1, 0) y2 - cv (f.1, f.2.1, 0) a)) := by
        unfold cv sc
        simp only []
        grind
      rw [e]
      exact Int.mul_nonneg (Int.le_of_lt hk) (Int.mul_nonneg (Int.le_of_lt hw) (by omega))
    have u2 := h2 (-f.1, -f.2.1, -(k * cv (f.1, f.2.1, 0) p - k * (w * cv (f.1, f.2.1, 0) b))) fun y hy => by
      obtain ⟨y1, hy1, rfl⟩ := mem_sc.mp hy
      obtain ⟨b2, hb2, rfl⟩ := hM1 _ hy1
      have := lb b2 hb2
      have e : cv (-f.1, -f.2.1, -(k * cv (f.1, f.2.1, 0) p - k * (w * cv (f.1, f.2.1, 0) b))) (sc k (subP p (sc w b2))) = k * (w * (cv (f.1, f.2.1, 0) b2 - cv (f.1, f.2.1, 0) b)) := by
        unfold cv sc subP
        simp only []
        grind
      rw [e]
      exact Int.mul_nonneg (Int.le_of_lt hk) (Int.mul_nonneg (Int.le_of_lt hw) (by omega))
    refine nonneg_of_mul hk ?_
    have z2 := Int.mul_nonneg (Int.le_of_lt hk) z
    have : k * cv f p = cv (f.1, f.2.1, k * (w * cv (f.1, f.2.1, 0) a)) x + cv (-f.1, -f.2.1, -(k * cv (f.1, f.2.1, 0) p - k * (w * cv (f.1, f.2.1, 0) b))) x + k * cv f (sc w (addP a b)) := by
      unfold cv sc addP
      simp only []
      grind
    omega
end GM

/-! GM11: what separates a segment from a polygon. -/
namespace GM
def Sep (w : Int) (H : List P2) (a b : P2) (e : Int × Int) : Prop := ∀ c ∈ H, w * (e.1 * c.1 + e.2 * c.2) < e.1 * a.1 + e.2 * a.2 ∧ w * (e.1 * c.1 + e.2 * c.2) < e.1 * b.1 + e.2 * b.2
theorem sep_scale {w : Int} {H : List P2} {a b : P2} {e g : Int × Int} {α β : Int} (hα : 0 < α) (hβ : 0 < β) (e1 : α * e.1 = β * g.1) (e2 : α * e.2 = β * g.2) (h : Sep w H a b e) : Sep w H a b g := fun c hc => by
  obtain ⟨h1, h2⟩ := h c hc
  have t : ∀ y : P2, w * (e.1 * c.1 + e.2 * c.2) < e.1 * y.1 + e.2 * y.2 → w * (g.1 * c.1 + g.2 * c.2) < g.1 * y.1 + g.2 * y.2 := fun y hy => by
    have a1 := Int.mul_lt_mul_of_pos_left hy hα
    have a2 : α * (w * (e.1 * c.1 + e.2 * c.2)) = β * (w * (g.1 * c.1 + g.2 * c.2)) := by
      have : α * (w * (e.1 * c.1 + e.2 * c.2)) = w * ((α * e.1) * c.1 + (α * e.2) * c.2) := by grind
      rw [this, e1, e2]
      grind
    have a3 : α * (e.1 * y.1 + e.2 * y.2) = β * (g.1 * y.1 + g.2 * y.2) := by
      have : α * (e.1 * y.1 + e.2 * y.2) = (α * e.1) * y.1 + (α * e.2) * y.2 := by grind
      rw [this, e1, e2]
      grind
    rw [a2, a3] at a1
    exact Int.lt_of_mul_lt_mul_left a1 (Int.le_of_lt hβ)
  exact ⟨t a h1, t b h2⟩
theorem par_dir {l d : Int × Int} (h : l.1 * d.1 + l.2 * d.2 = 0) (hd : d.1 ≠ 0 ∨ d.2 ≠ 0) (hl : l.1 ≠ 0 ∨ l.2 ≠ 0) : ∃ α β : Int, 0 < α ∧ β ≠ 0 ∧ α * l.1 = β * -d.2 ∧ α * l.2 = β * d.1 := by
  have key : ∃ α β : Int, α ≠ 0 ∧ β ≠ 0 ∧ α * l.1 = β * -d.2 ∧ α * l.2 = β * d.1 := by
    by_cases h1 : d.1 = 0
    · have h2 := hd.resolve_left (by omega)
      rw [h1, Int.mul_zero, Int.zero_add] at h
      have l2 : l.2 = 0 := (Int.mul_eq_zero.mp h).resolve_right h2
      refine ⟨-d.2, l.1, by omega, hl.resolve_right (by omega), by rw [Int.mul_comm], by rw [l2, h1, Int.mul_zero, Int.mul_zero]⟩
    · refine ⟨d.1, l.2, h1, fun z => ?_, ?_, by rw [Int.mul_comm]⟩
      · rw [z, Int.zero_mul, Int.add_zero] at h
        have := (Int.mul_eq_zero.mp h).resolve_right h1
        omega
      · rw [Int.mul_neg, Int.mul_comm]
        omega
  obtain ⟨α, β, ha, hb, e1, e2⟩ := key
  rcases Int.lt_or_le 0 α with z | z
  · exact ⟨α, β, z, hb, e1, e2⟩
  · exact ⟨-α, -β, by omega, by omega, by rw [Int.neg_mul, Int.neg_mul, e1], by rw [Int.neg_mul, Int.neg_mul, e2]⟩
/-- the program's directions -/
def dirQ (H : List P2) (a b : P2) : List (Int × Int) := (planesP H).map (fun f => (-f.1, -f.2.1)) ++ if a = b then [] else [lowP (a.2 - b.2) (b.1 - a.1), (-(lowP (a.2 - b.2) (b.1 - a.1)).1, -(lowP (a.2 - b.2) (b.1 - a.1)).2)]
/-- two corners that are both greatest: a side is -/
theorem face_side {H : List P2} (hH : IsHull H H) {f : Fn} {c c' : P2} (hc : c ∈ H) (hc' : c' ∈ H) (hne : c ≠ c') (h0 : cv f c = 0) (h1 : cv f c' = 0) (hf : ∀ h ∈ H, 0 ≤ cv f h) : ∃ i, i < H.length ∧ cv f (nth H i) = 0 ∧ cv f (nth H (nxt H i)) = 0 := by
  obtain ⟨i, hi, ei⟩ := mem_nth hc
  obtain ⟨j, hj, ej⟩ := prev_of hi
  have hn := nxt_lt hi
  by_cases h2 : H.length < 3
  · obtain ⟨i', hi', ei'⟩ := mem_nth hc'
    have : i ≠ i' := fun z => hne (by rw [← ei, ← ei', z])
    refine ⟨i, hi, by rw [ei]; exact h0, ?_⟩
    have e : nxt H i = i' := by unfold nxt; split <;> omega
    rw [e, ei']
    exact h1
  · have s := hH.strict (by omega) hj
    rw [ej] at s
    have p1 := edge_nonneg (hH.edge hj) hc'
    rw [ej] at p1
    have p2 := edge_nonneg (hH.edge hi) hc'
    have e := tri_id f (nth H j) (nth H i) (nth H (nxt H i)) c'
    rw [h1, Int.mul_zero, ei, h0, Int.mul_zero, Int.add_zero, ← ei] at e
    have ga := hf _ (nth_mem hj)
    have gc := hf _ (nth_mem hn)
    have k1 := Int.mul_nonneg p2 ga
    have k2 := Int.mul_nonneg p1 gc
    have z1 : area (nth H i) (nth H (nxt H i)) c' * cv f (nth H j) = 0 := by omega
    have z2 : area (nth H j) (nth H i) c' * cv f (nth H (nxt H i)) = 0 := by omega
    rcases Int.mul_eq_zero.mp z2 with y2 | y2
    · rcases Int.mul_eq_zero.mp z1 with y1 | y1
      · -- on both sides' lines: the corner
        exfalso
        apply hne
        have x1 : area (nth H j) (nth H i) (nth H (nxt H i)) * (c'.1 - (nth H i).1) = area (nth H j) (nth H i) c' * ((nth H (nxt H i)).1 - (nth H i).1) + area (nth H i) (nth H (nxt H i)) c' * ((nth H j).1 - (nth H i).1) := by unfold area; grind
        have x2 : area (nth H j) (nth H i) (nth H (nxt H i)) * (c'.2 - (nth H i).2) = area (nth H j) (nth H i) c' * ((nth H (nxt H i)).2 - (nth H i).2) + area (nth H i) (nth H (nxt H i)) c' * ((nth H j).2 - (nth H i).2) := by unfold area; grind
        rw [y1, y2, Int.zero_mul, Int.zero_mul, Int.add_zero] at x1 x2
        have w1 := zero_of_mul s x1
        have w2 := zero_of_mul s x2
        rw [← ei]
        exact Prod.ext (by omega) (by omega)
      · exact ⟨j, hj, y1, by rw [ej, ei]; exact h0⟩
    · exact ⟨i, hi, by rw [ei]; exact h0, y2⟩
theorem sep_dir {w : Int} {H K : List P2} {a b : P2} (hw : 0 < w) (hH : IsHull H H) (hK : IsHull K K) (k1 : ∀ k ∈ K, ∃ c ∈ H, k = subP a (sc w c) ∨ k = subP b (sc w c)) (k2 : ∀ c ∈ H, In K (subP a (sc w c)) ∧ In K (subP b (sc w c)))
    (hno : ¬ ∃ k x, 0 < k ∧ Seg x (sc k a) (sc k b) ∧ In (scL k (scL w H)) x) : ∃ e ∈ dirQ H a b, Sep w H a b e := by
  have h0 : ¬ In K (0, 0) := fun h => hno (by
    obtain ⟨i, j, k, q1, q2, q3, hi, hj, hk, hs, m1, m2, m3, e1, e2⟩ := in_comb hK h
    simp only [Int.mul_zero] at e1 e2
    obtain ⟨c1, n1, f1⟩ := k1 _ m1
    obtain ⟨c2, n2, f2⟩ := k1 _ m2
    obtain ⟨c3, n3, f3⟩ := k1 _ m3
    -- each is an end less a corner
    have en : ∀ {q c : P2}, (q = subP a (sc w c) ∨ q = subP b (sc w c)) → ∃ t : P2, (t = a ∨ t = b) ∧ q = subP t (sc w c) := fun h => by
      rcases h with h | h
      · exact ⟨a, .inl rfl, h⟩
      · exact ⟨b, .inr rfl, h⟩
    obtain ⟨t1, g1, rfl⟩ := en f1
    obtain ⟨t2, g2, rfl⟩ := en f2
    obtain ⟨t3, g3, rfl⟩ := en f3
    unfold subP sc at e1 e2
    simp only [] at e1 e2
    refine ⟨i + j + k, (i * t1.1 + j * t2.1 + k * t3.1, i * t1.2 + j * t2.2 + k * t3.2), hs, ?_, fun f hf => ?_⟩
    · have sp : ∀ (i : Int) (t : P2), 0 ≤ i → (t = a ∨ t = b) → ∃ m n : Int, 0 ≤ m ∧ 0 ≤ n ∧ m + n = i ∧ i * t.1 = m * a.1 + n * b.1 ∧ i * t.2 = m * a.2 + n * b.2 := fun i t hi h => by
        rcases h with rfl | rfl
        · exact ⟨i, 0, hi, Int.le_refl _, by omega, by omega, by omega⟩
        · exact ⟨0, i, Int.le_refl _, hi, by omega, by omega, by omega⟩
      obtain ⟨a1, b1, x1, x2, x3, x4, x5⟩ := sp i t1 hi g1
      obtain ⟨a2, b2, y1, y2, y3, y4, y5⟩ := sp j t2 hj g2
      obtain ⟨a3, b3, z1, z2, z3, z4, z5⟩ := sp k t3 hk g3
      have := seg_comb (a := a) (b := b) (x := (i * t1.1 + j * t2.1 + k * t3.1, i * t1.2 + j * t2.2 + k * t3.2)) (m := a1 + a2 + a3) (n := b1 + b2 + b3) (by omega) (by omega) (by simp only []; rw [x4, y4, z4]; grind) (by simp only []; rw [x5, y5, z5]; grind)
      rw [show a1 + a2 + a3 + (b1 + b2 + b3) = i + j + k by omega] at this
      exact this
    · have f1 := hf _ (mem_sc.mpr ⟨_, mem_sc.mpr ⟨_, n1, rfl⟩, rfl⟩)
      have f2 := hf _ (mem_sc.mpr ⟨_, mem_sc.mpr ⟨_, n2, rfl⟩, rfl⟩)
      have f3 := hf _ (mem_sc.mpr ⟨_, mem_sc.mpr ⟨_, n3, rfl⟩, rfl⟩)
      refine nonneg_of_mul hs ?_
      have g1 := Int.mul_nonneg hi f1
      have g2 := Int.mul_nonneg hj f2
      have g3 := Int.mul_nonneg hk f3
      have : (i + j + k) * cv f (i * t1.1 + j * t2.1 + k * t3.1, i * t1.2 + j * t2.2 + k * t3.2) = i * cv f (sc (i + j + k) (sc w c1)) + j * cv f (sc (i + j + k) (sc w c2)) + k * cv f (sc (i + j + k) (sc w c3)) := by
        unfold cv sc
        simp only []
        have a1 : i * t1.1 + j * t2.1 + k * t3.1 = i * (w * c1.1) + j * (w * c2.1) + k * (w * c3.1) := by grind
        have a2 : i * t1.2 + j * t2.2 + k * t3.2 = i * (w * c1.2) + j * (w * c2.2) + k * (w * c3.2) := by grind
        rw [a1, a2]
        grind
      omega)
  -- a plane of the differences that leaves zero out
  obtain ⟨f, hf, hf0⟩ : ∃ f ∈ planesP K, cv f (0, 0) < 0 := by
    by_cases c : ∃ f ∈ planesP K, cv f (0, 0) < 0
    · exact c
    · exfalso
      refine h0 ((planes_in1 hK).mp fun f hf => ?_)
      rcases Int.lt_or_le (cv f (0, 0)) 0 with z | z
      · exact absurd ⟨f, hf, z⟩ c
      · exact z
  have pos : 0 < f.2.2 := by
    unfold cv at hf0
    simp only [Int.mul_zero, Int.add_zero] at hf0
    omega
  obtain ⟨pok, pdir⟩ := plane_ok hK hf
  have da : ∀ c ∈ H, 0 ≤ cv f (subP a (sc w c)) ∧ 0 ≤ cv f (subP b (sc w c)) := fun c hc => ⟨(k2 c hc).1 f pok, (k2 c hc).2 f pok⟩
  have dv : ∀ t c : P2, cv f (subP t (sc w c)) = (f.1 * t.1 + f.2.1 * t.2) - w * (f.1 * c.1 + f.2.1 * c.2) - f.2.2 := fun t c => by
    unfold cv subP sc
    simp only []
    grind
  have sep : Sep w H a b (f.1, f.2.1) := fun c hc => by
    obtain ⟨x1, x2⟩ := da c hc
    rw [dv] at x1 x2
    simp only []
    omega
  have dirs_of : ∀ g ∈ planesP H, (-g.1, -g.2.1) ∈ dirQ H a b := fun g hg => List.mem_append_left _ (List.mem_map.mpr ⟨g, hg, rfl⟩)
  rcases planes_mem.mp hf with h | ⟨h1, q, hq, ef⟩
  · unfold boxF at h
    simp only [List.mem_cons, List.not_mem_nil, or_false] at h
    have bx : ∀ g ∈ boxF H, g ∈ planesP H := fun g hg => planes_mem.mpr (.inl hg)
    rcases h with rfl | rfl | rfl | rfl
    · exact ⟨_, dirs_of (-1, 0, -hi (xsQ H)) (bx _ (by unfold boxF; simp)), sep⟩
    · exact ⟨_, dirs_of (1, 0, lo (xsQ H)) (bx _ (by unfold boxF; simp)), sep⟩
    · exact ⟨_, dirs_of (0, -1, -hi (ysQ H)) (bx _ (by unfold boxF; simp)), sep⟩
    · exact ⟨_, dirs_of (0, 1, lo (ysQ H)) (bx _ (by unfold boxF; simp)), sep⟩
  · obtain ⟨i, hi, rfl⟩ := sidesQ_mem.mp hq
    have hne := nxt_ne hK h1 hi
    -- the side's ends are on the plane's line
    obtain ⟨g, hg, ka⟩ := sideF_area hne
    have on : ∀ y : P2, area (nth K i) (nth K (nxt K i)) y = 0 → cv f y = 0 := fun y hy => by
      have e := ka y.1 y.2 1
      rw [sc_one, sc_one, Int.one_mul] at e
      have e' : area (nth K i) (nth K (nxt K i)) y = g * pvw (sideF (nth K i, nth K (nxt K i))) y.1 y.2 1 := e
      rw [hy] at e'
      have z := zero_of_mul hg e'.symm
      rw [ef]
      unfold pvw at z
      unfold cv
      omega
    have p0 := on _ (area_aa (nth K i) (nth K (nxt K i)))
    have q0 := on _ (area_ab (nth K i) (nth K (nxt K i)))
    obtain ⟨c, hc, hP⟩ := k1 _ (nth_mem hi)
    obtain ⟨c', hc', hQ⟩ := k1 _ (nth_mem (nxt_lt hi))
    have en : ∀ {q c : P2}, (q = subP a (sc w c) ∨ q = subP b (sc w c)) → ∃ t : P2, (t = a ∨ t = b) ∧ q = subP t (sc w c) := fun h => by
      rcases h with h | h
      · exact ⟨a, .inl rfl, h⟩
      · exact ⟨b, .inr rfl, h⟩
    obtain ⟨t, gt, eP⟩ := en hP
    obtain ⟨t', gt', eQ⟩ := en hQ
    rw [eP, dv] at p0
    rw [eQ, dv] at q0
    have lows : ∀ y : P2, (y = a ∨ y = b) → ∀ d ∈ H, 0 ≤ (f.1 * y.1 + f.2.1 * y.2) - w * (f.1 * d.1 + f.2.1 * d.2) - f.2.2 := fun y hy d hd => by
      obtain ⟨x1, x2⟩ := da d hd
      rw [dv] at x1 x2
      rcases hy with rfl | rfl
      · exact x1
      · exact x2
    have m1 : ∀ d ∈ H, f.1 * d.1 + f.2.1 * d.2 ≤ f.1 * c.1 + f.2.1 * c.2 := fun d hd => by
      have := lows t gt d hd
      exact (Int.mul_le_mul_left hw).mp (by omega)
    have m2 : ∀ d ∈ H, f.1 * d.1 + f.2.1 * d.2 ≤ f.1 * c'.1 + f.2.1 * c'.2 := fun d hd => by
      have := lows t' gt' d hd
      exact (Int.mul_le_mul_left hw).mp (by omega)
    have ec : f.1 * c.1 + f.2.1 * c.2 = f.1 * c'.1 + f.2.1 * c'.2 := by
      have := m1 c' hc'
      have := m2 c hc
      omega
    have et : f.1 * t.1 + f.2.1 * t.2 = f.1 * t'.1 + f.2.1 * t'.2 := by
      rw [← ec] at q0
      omega
    by_cases htt : t = t'
    · have hcc : c ≠ c' := fun z => hne (by rw [eP, eQ, htt, z])
      -- a side of the polygon
      obtain ⟨F, eF⟩ : ∃ F : Fn, F = (-f.1, -f.2.1, -(f.1 * c.1 + f.2.1 * c.2)) := ⟨_, rfl⟩
      have cF : ∀ y, cv F y = (f.1 * c.1 + f.2.1 * c.2) - (f.1 * y.1 + f.2.1 * y.2) := fun y => by
        rw [eF]
        unfold cv
        simp only []
        grind
      obtain ⟨j, hj, z1, z2⟩ := face_side hH (f := F) hc hc' hcc (by rw [cF]; omega) (by rw [cF]; omega) fun h hh => by
        rw [cF]
        have := m1 h hh
        omega
      rw [cF] at z1 z2
      have hl : 1 < H.length := by
        have hp := hH.pos
        rcases (by omega : H.length = 1 ∨ 1 < H.length) with z | z
        · exact absurd ((mem1 z hc).trans (mem1 z hc').symm) hcc
        · exact z
      have hne2 := nxt_ne hH hl hj
      obtain ⟨α, β, hα, hβ, x1, x2⟩ := par_dir (l := (f.1, f.2.1)) (d := ((nth H (nxt H j)).1 - (nth H j).1, (nth H (nxt H j)).2 - (nth H j).2)) (by
        simp only []
        rw [Int.mul_sub, Int.mul_sub]
        omega) (by
        simp only []
        by_cases k : (nth H j).1 = (nth H (nxt H j)).1
        · right
          intro z
          exact hne2 (Prod.ext k (by omega))
        · left
          omega) pdir
      simp only [] at x1 x2
      obtain ⟨γ, hγ, kk⟩ := sideF_mul hne2
      obtain ⟨g1, g2, g3⟩ := kk _ rfl
      have inP1 : sideF (nth H j, nth H (nxt H j)) ∈ planesP H := planes_mem.mpr (.inr ⟨hl, _, sidesQ_mem.mpr ⟨j, hj, rfl⟩, rfl⟩)
      rcases Int.lt_or_le β 0 with hb | hb
      · refine ⟨_, dirs_of _ inP1, sep_scale (α := α) (β := -β * γ) hα (Int.mul_pos (by omega) hγ) ?_ ?_ sep⟩
        · simp only []
          have : -β * γ * -(sideF (nth H j, nth H (nxt H j))).1 = β * (γ * (sideF (nth H j, nth H (nxt H j))).1) := by grind
          rw [this, g1, x1]
          congr 1
          omega
        · simp only []
          have : -β * γ * -(sideF (nth H j, nth H (nxt H j))).2.1 = β * (γ * (sideF (nth H j, nth H (nxt H j))).2.1) := by grind
          rw [this, g2, x2]
      · have hb : 0 < β := by omega
        -- all corners on the side's line: two corners
        have flat : ∀ h ∈ H, area (nth H j) (nth H (nxt H j)) h = 0 := fun h hh => by
          have nn := edge_nonneg (hH.edge hj) hh
          have e : α * ((f.1 * h.1 + f.2.1 * h.2) - (f.1 * (nth H j).1 + f.2.1 * (nth H j).2)) = β * area (nth H j) (nth H (nxt H j)) h := by
            have : α * ((f.1 * h.1 + f.2.1 * h.2) - (f.1 * (nth H j).1 + f.2.1 * (nth H j).2)) = (α * f.1) * (h.1 - (nth H j).1) + (α * f.2.1) * (h.2 - (nth H j).2) := by grind
            rw [this, x1, x2]
            unfold area
            grind
          have le := m1 h hh
          have : α * ((f.1 * h.1 + f.2.1 * h.2) - (f.1 * (nth H j).1 + f.2.1 * (nth H j).2)) ≤ 0 := by
            have := Int.mul_nonneg (Int.le_of_lt hα) (show 0 ≤ -((f.1 * h.1 + f.2.1 * h.2) - (f.1 * (nth H j).1 + f.2.1 * (nth H j).2)) by omega)
            rw [Int.mul_neg] at this
            omega
          have nb := Int.mul_nonneg (Int.le_of_lt hb) nn
          exact zero_of_mul hb (by omega)
        have l2 : H.length = 2 := by
          rcases (by omega : H.length = 2 ∨ 3 ≤ H.length) with z | z
          · exact z
          · exfalso
            have := hH.strict z hj
            rw [flat _ (nth_mem (nxt_lt (nxt_lt hj)))] at this
            omega
        have hnn : nxt H (nxt H j) = j := by
          unfold nxt
          split <;> split <;> omega
        have inP2 : sideF (nth H (nxt H j), nth H j) ∈ planesP H := planes_mem.mpr (.inr ⟨hl, _, sidesQ_mem.mpr ⟨nxt H j, nxt_lt hj, by rw [hnn]⟩, rfl⟩)
        obtain ⟨δ, hδ, kk2⟩ := sideF_mul hne2.symm
        obtain ⟨d1, d2, d3⟩ := kk2 _ rfl
        refine ⟨_, dirs_of _ inP2, sep_scale (α := α) (β := β * δ) hα (Int.mul_pos hb hδ) ?_ ?_ sep⟩
        · simp only []
          have : β * δ * -(sideF (nth H (nxt H j), nth H j)).1 = β * -(δ * (sideF (nth H (nxt H j), nth H j)).1) := by grind
          rw [this, d1, x1]
        · simp only []
          have : β * δ * -(sideF (nth H (nxt H j), nth H j)).2.1 = β * -(δ * (sideF (nth H (nxt H j), nth H j)).2.1) := by grind
          rw [this, d2, x2]
          congr 1
          omega
    · -- the segment's own direction
      have hab : a ≠ b ∧ f.1 * a.1 + f.2.1 * a.2 = f.1 * b.1 + f.2.1 * b.2 := by
        rcases gt with rfl | rfl
        · rcases gt' with rfl | rfl
          · exact absurd rfl htt
          · exact ⟨htt, et⟩
        · rcases gt' with rfl | rfl
          · exact ⟨Ne.symm htt, et.symm⟩
          · exact absurd rfl htt
      obtain ⟨hab, eab⟩ := hab
      have hn : a.2 - b.2 ≠ 0 ∨ b.1 - a.1 ≠ 0 := by
        by_cases k : a.1 = b.1
        · left
          intro z
          exact hab (Prod.ext k (by omega))
        · right
          omega
      obtain ⟨α, β, hα, hβ, x1, x2⟩ := par_dir (l := (f.1, f.2.1)) (d := (b.1 - a.1, b.2 - a.2)) (by
        simp only []
        rw [Int.mul_sub, Int.mul_sub]
        omega) (by simp only []; omega) pdir
      simp only [] at x1 x2
      have hγ := gcdZ_pos hn
      obtain ⟨g1, g2⟩ := gcdZ_mul hn
      have mem : ∀ e ∈ [lowP (a.2 - b.2) (b.1 - a.1), (-(lowP (a.2 - b.2) (b.1 - a.1)).1, -(lowP (a.2 - b.2) (b.1 - a.1)).2)], e ∈ dirQ H a b := fun e he => by
        unfold dirQ
        rw [if_neg hab]
        exact List.mem_append_right _ he
      rcases Int.lt_or_le β 0 with hb | hb
      · refine ⟨_, mem _ (List.mem_cons_of_mem _ List.mem_cons_self), sep_scale (α := α) (β := -β * gcdZ (a.2 - b.2) (b.1 - a.1)) hα (Int.mul_pos (by omega) hγ) ?_ ?_ sep⟩
        · simp only []
          have : -β * gcdZ (a.2 - b.2) (b.1 - a.1) * -(lowP (a.2 - b.2) (b.1 - a.1)).1 = β * (gcdZ (a.2 - b.2) (b.1 - a.1) * (lowP (a.2 - b.2) (b.1 - a.1)).1) := by grind
          rw [this, g1, x1]
          congr 1
          omega
        · simp only []
          have : -β * gcdZ (a.2 - b.2) (b.1 - a.1) * -(lowP (a.2 - b.2) (b.1 - a.1)).2 = β * (gcdZ (a.2 - b.2) (b.1 - a.1) * (lowP (a.2 - b.2) (b.1 - a.1)).2) := by grind
          rw [this, g2, x2]
      · refine ⟨_, mem _ List.mem_cons_self, sep_scale (α := α) (β := β * gcdZ (a.2 - b.2) (b.1 - a.1)) hα (Int.mul_pos (by omega) hγ) ?_ ?_ sep⟩
        · simp only []
          have : β * gcdZ (a.2 - b.2) (b.1 - a.1) * (lowP (a.2 - b.2) (b.1 - a.1)).1 = β * (gcdZ (a.2 - b.2) (b.1 - a.1) * (lowP (a.2 - b.2) (b.1 - a.1)).1) := by grind
          rw [this, g1, x1]
          congr 1
          omega
        · simp only []
          have : β * gcdZ (a.2 - b.2) (b.1 - a.1) * (lowP (a.2 - b.2) (b.1 - a.1)).2 = β * (gcdZ (a.2 - b.2) (b.1 - a.1) * (lowP (a.2 - b.2) (b.1 - a.1)).2) := by grind
          rw [this, g2, x2]
/-- what separates leaves nothing in common -/
theorem sep_none {w : Int} {H : List P2} {a b : P2} {e : Int × Int} (hw : 0 < w) (h0 : 0 < H.length) (h : Sep w H a b e) : ¬ ∃ k x, 0 < k ∧ Seg x (sc k a) (sc k b) ∧ In (scL k (scL w H)) x := by
  rintro ⟨k, x, hk, hs, hx⟩
  -- the greatest corner
  obtain ⟨c, hc, hl⟩ := least_f (-e.1, -e.2, 0) h0
  have big : ∀ y ∈ H, e.1 * y.1 + e.2 * y.2 ≤ e.1 * c.1 + e.2 * c.2 := fun y hy => by
    have := hl y hy
    unfold cv at this
    simp only [Int.neg_mul, Int.sub_zero] at this
    omega
  obtain ⟨s1, s2⟩ := h c hc
  have x1 := hx (-e.1, -e.2, -(k * (w * (e.1 * c.1 + e.2 * c.2)))) fun y hy => by
    obtain ⟨y1, hy1, rfl⟩ := mem_sc.mp hy
    obtain ⟨y2, hy2, rfl⟩ := mem_sc.mp hy1
    have := big y2 hy2
    have e : cv (-e.1, -e.2, -(k * (w * (e.1 * c.1 + e.2 * c.2)))) (sc k (sc w y2)) = k * (w * ((e.1 * c.1 + e.2 * c.2) - (e.1 * y2.1 + e.2 * y2.2))) := by
      unfold cv sc
      simp only []
      grind
    rw [e]
    exact Int.mul_nonneg (Int.le_of_lt hk) (Int.mul_nonneg (Int.le_of_lt hw) (by omega))
  have t : ∀ y : P2, w * (e.1 * c.1 + e.2 * c.2) < e.1 * y.1 + e.2 * y.2 → 0 < cv (e.1, e.2, k * (w * (e.1 * c.1 + e.2 * c.2))) (sc k y) := fun y hy => by
    have : cv (e.1, e.2, k * (w * (e.1 * c.1 + e.2 * c.2))) (sc k y) = k * ((e.1 * y.1 + e.2 * y.2) - w * (e.1 * c.1 + e.2 * c.2)) := by
      unfold cv sc
      simp only []
      grind
    rw [this]
    exact Int.mul_pos hk (by omega)
  have x2 := seg_pos hs (t a s1) (t b s2)
  unfold cv at x1 x2
  simp only [Int.neg_mul] at x1 x2
  omega
end GM

/-! GM12: a polygon has no three corners on one upright line: few columns, few corners. -/
namespace GM
theorem no_three {H : List P2} (hH : IsHull H H) {a m c : P2} (ha : a ∈ H) (hm : m ∈ H) (hc : c ∈ H) (e1 : a.1 = m.1) (e2 : c.1 = m.1) (l1 : a.2 < m.2) (l2 : m.2 < c.2) : False := by
  obtain ⟨i, hi, e⟩ := mem_nth hm
  have E := hH.edge hi
  rw [e] at E
  generalize nth H (nxt H i) = n at E
  clear e hi hm
  have fa : area m n a = (n.1 - m.1) * (a.2 - m.2) := by
    unfold area
    rw [e1, Int.sub_self, Int.mul_zero, Int.sub_zero]
  have fc : area m n c = (n.1 - m.1) * (c.2 - m.2) := by
    unfold area
    rw [e2, Int.sub_self, Int.mul_zero, Int.sub_zero]
  have ga := edge_nonneg E ha
  have gc := edge_nonneg E hc
  rw [fa] at ga
  rw [fc] at gc
  have z : n.1 - m.1 = 0 := by
    rcases Int.lt_trichotomy (n.1 - m.1) 0 with k | k | k
    · have := Int.mul_pos (show 0 < -(n.1 - m.1) by omega) (show 0 < c.2 - m.2 by omega)
      rw [Int.neg_mul] at this
      omega
    · exact k
    · have := Int.mul_pos k (show 0 < m.2 - a.2 by omega)
      have e : (n.1 - m.1) * (m.2 - a.2) = -((n.1 - m.1) * (a.2 - m.2)) := by grind
      omega
  rw [z, Int.zero_mul] at fa fc
  have sa := E a ha
  have sc := E c hc
  rw [fa] at sa
  rw [fc] at sc
  rcases sa with k | sa
  · omega
  rcases sc with k | sc
  · omega
  have x1 := sa.2.2
  have x2 := sc.2.2
  unfold Bw at x1 x2
  omega
theorem two_of : ∀ {l : List P2}, l.Nodup → (∀ a ∈ l, ∀ m ∈ l, ∀ c ∈ l, a.1 = m.1 → c.1 = m.1 → a.2 < m.2 → m.2 < c.2 → False) → (∀ a ∈ l, ∀ b ∈ l, a.1 = b.1) → l.length ≤ 2
  | [], _, _, _ => by simp
  | [_], _, _, _ => by simp
  | [_, _], _, _, _ => by simp
  | a :: b :: c :: r, hn, h3, hs => by
    exfalso
    have hn1 := List.nodup_cons.mp hn
    have hn2 := List.nodup_cons.mp hn1.2
    have ma : a ∈ a :: b :: c :: r := by simp
    have mb : b ∈ a :: b :: c :: r := by simp
    have mc : c ∈ a :: b :: c :: r := by simp
    have nab : a ≠ b := fun e => hn1.1 (by rw [e]; simp)
    have nac : a ≠ c := fun e => hn1.1 (by rw [e]; simp)
    have nbc : b ≠ c := fun e => hn2.1 (by rw [e]; simp)
    have sab := hs a ma b mb
    have sac := hs a ma c mc
    have yab : a.2 ≠ b.2 := fun e => nab (Prod.ext sab e)
    have yac : a.2 ≠ c.2 := fun e => nac (Prod.ext sac e)
    have ybc : b.2 ≠ c.2 := fun e => nbc (Prod.ext (by omega) e)
    have t : ∀ x y z : P2, x ∈ a :: b :: c :: r → y ∈ a :: b :: c :: r → z ∈ a :: b :: c :: r → x.2 < y.2 → y.2 < z.2 → False := fun x y z hx hy hz h1 h2 => h3 x hx y hy z hz (hs x hx y hy) (hs z hz y hy) h1 h2
    have c1 : ¬ (a.2 < b.2 ∧ b.2 < c.2) := fun k => t a b c ma mb mc k.1 k.2
    have c2 : ¬ (a.2 < c.2 ∧ c.2 < b.2) := fun k => t a c b ma mc mb k.1 k.2
    have c3 : ¬ (b.2 < a.2 ∧ a.2 < c.2) := fun k => t b a c mb ma mc k.1 k.2
    have c4 : ¬ (b.2 < c.2 ∧ c.2 < a.2) := fun k => t b c a mb mc ma k.1 k.2
    have c5 : ¬ (c.2 < a.2 ∧ a.2 < b.2) := fun k => t c a b mc ma mb k.1 k.2
    have c6 : ¬ (c.2 < b.2 ∧ b.2 < a.2) := fun k => t c b a mc mb ma k.1 k.2
    omega
theorem columns : ∀ (n : Nat) (lo : Int) {l : List P2}, l.Nodup → (∀ a ∈ l, ∀ m ∈ l, ∀ c ∈ l, a.1 = m.1 → c.1 = m.1 → a.2 < m.2 → m.2 < c.2 → False) → (∀ p ∈ l, lo ≤ p.1 ∧ p.1 < lo + (n : Int)) → l.length ≤ 2 * n
  | 0, lo, l, _, _, h => by
    cases l with
    | nil => simp
    | cons a r =>
      have := h a List.mem_cons_self
      omega
  | n + 1, lo, l, hn, h3, h => by
    have e : l.length = (l.filter fun p => decide (p.1 = lo + (n : Int))).length + (l.filter fun p => !decide (p.1 = lo + (n : Int))).length := by
      clear h hn h3
      induction l with
      | nil => rfl
      | cons a r ih =>
        by_cases k : a.1 = lo + (n : Int)
        · simp [List.filter_cons, k, ih]
          omega
        · simp [List.filter_cons, k, ih]
          omega
    have m1 : ∀ p ∈ l.filter (fun p => decide (p.1 = lo + (n : Int))), p ∈ l ∧ p.1 = lo + (n : Int) := fun p hp => by simpa using hp
    have m2 : ∀ p ∈ l.filter (fun p => !decide (p.1 = lo + (n : Int))), p ∈ l ∧ p.1 ≠ lo + (n : Int) := fun p hp => by simpa using hp
    have a1 := two_of (hn.filter _) (fun a ha m hm c hc => h3 a (m1 a ha).1 m (m1 m hm).1 c (m1 c hc).1) (fun a ha b hb => by rw [(m1 a ha).2, (m1 b hb).2])
    have a2 := columns n lo (hn.filter (fun p => !decide (p.1 = lo + (n : Int)))) (fun a ha m hm c hc => h3 a (m2 a ha).1 m (m2 m hm).1 c (m2 c hc).1) (fun p hp => by
      have := h p (m2 p hp).1
      have := (m2 p hp).2
      omega)
    omega
theorem hull_columns {H : List P2} (hH : IsHull H H) (n : Nat) (lo : Int) (h : ∀ p ∈ H, lo ≤ p.1 ∧ p.1 < lo + (n : Int)) : H.length ≤ 2 * n :=
  columns n lo hH.nd (fun a ha m hm c hc e1 e2 l1 l2 => no_three hH ha hm hc e1 e2 l1 l2) h
end GM

/-! GM13: moved polygons; a drawn point against a sum. -/
namespace GM
theorem area_add (v a b c : P2) : area (addP v a) (addP v b) (addP v c) = area a b c := by
  unfold area addP
  grind
theorem bw_add {v x y z : Int} : Bw (v + x) (v + y) (v + z) ↔ Bw x y z := by
  unfold Bw
  omega
theorem seg_add {v p a b : P2} : Seg (addP v p) (addP v a) (addP v b) ↔ Seg p a b := by
  unfold Seg
  rw [area_add]
  unfold addP
  simp only [bw_add]
theorem add_inj {v p q : P2} (h : addP v p = addP v q) : p = q := by
  unfold addP at h
  have h1 := congrArg Prod.fst h
  have h2 := congrArg Prod.snd h
  simp only [] at h1 h2
  exact Prod.ext (by omega) (by omega)
def addL (v : P2) (H : List P2) : List P2 := H.map (addP v)
theorem mem_add {v : P2} {H : List P2} {p : P2} : p ∈ addL v H ↔ ∃ q ∈ H, addP v q = p := List.mem_map
theorem addL_len (v : P2) (H : List P2) : (addL v H).length = H.length := List.length_map ..
theorem hull_add {v : P2} {H : List P2} (h : IsHull H H) : IsHull (addL v H) (addL v H) := by
  obtain ⟨_, hn, a, r, e, hl, hs⟩ := h
  refine ⟨fun _ h => h, ?_, addP v a, addL v r, by rw [e]; rfl, fun p hp => ?_, ?_⟩
  · unfold addL
    exact List.Pairwise.map _ (fun a b n z => n (add_inj z)) hn
  · obtain ⟨q, hq, rfl⟩ := mem_add.mp hp
    rcases hl q hq with z | z
    · exact .inl (by rw [z])
    · refine .inr ?_
      unfold Lt addP at *
      simp only []
      omega
  · have := steps_map (g := addP v) (R := Edge H) (S := Edge (addL v H)) (fun a b he p hp => by
      obtain ⟨q, hq, rfl⟩ := mem_add.mp hp
      rw [area_add, seg_add]
      exact he q hq) hs
    rw [List.map_append] at this
    exact this
theorem nth_add (v : P2) {H : List P2} {i : Nat} (hi : i < H.length) : nth (addL v H) i = addP v (nth H i) := by
  unfold nth addL
  rw [List.getD_eq_getElem?_getD, List.getD_eq_getElem?_getD, List.getElem?_map, List.getElem?_eq_getElem hi]
  rfl
def negP (q : P2) : P2 := (-q.1, -q.2)
/-- a point of a sum, by the first polygon and the second one turned over and moved -/
theorem sum_in2 {A B S T : List P2} {w : Int} {p : P2} (hw : 0 < w) (hS : IsHull S S) (s1 : ∀ s ∈ S, ∃ a ∈ A, ∃ b ∈ B, s = addP a b) (s2 : ∀ a ∈ A, ∀ b ∈ B, In S (addP a b)) (a0 : 0 < A.length) (b0 : 0 < B.length)
    (t1 : ∀ t ∈ T, ∃ b ∈ B, t = negP b) (t2 : ∀ b ∈ B, In T (negP b)) : In (scL w S) p ↔ ∃ k x, 0 < k ∧ In (scL k (scL w A)) x ∧ In (scL k (addL p (scL w T))) x := by
  refine sum_in hw (fun _ _ => trivial) hS s1 s2 a0 b0 (fun m hm => ?_) fun b hb f hf => ?_
  · obtain ⟨q, hq, rfl⟩ := mem_add.mp hm
    obtain ⟨t, ht, rfl⟩ := mem_sc.mp hq
    obtain ⟨b, hb, rfl⟩ := t1 t ht
    refine ⟨b, hb, ?_⟩
    unfold addP sc negP subP
    simp only [Int.mul_neg]
    exact Prod.ext (by simp only []; omega) (by simp only []; omega)
  · have := t2 b hb (w * f.1, w * f.2.1, f.2.2 - f.1 * p.1 - f.2.1 * p.2) fun t ht => by
      have := hf (addP p (sc w t)) (mem_add.mpr ⟨_, mem_sc.mpr ⟨t, ht, rfl⟩, rfl⟩)
      have e : cv (w * f.1, w * f.2.1, f.2.2 - f.1 * p.1 - f.2.1 * p.2) t = cv f (addP p (sc w t)) := by
        unfold cv addP sc
        simp only []
        grind
      rw [e]
      exact this
    have e : cv (w * f.1, w * f.2.1, f.2.2 - f.1 * p.1 - f.2.1 * p.2) (negP b) = cv f (subP p (sc w b)) := by
      unfold cv subP sc negP
      simp only []
      grind
    rw [e] at this
    exact this
end GM

/-! GM14: where a segment is inside: at an end, at a cut, or midway between two cuts. -/
namespace GM
abbrev Fr := Int × Int
def cutN (q : Q2) : Int := if q.1 - q.2 < 0 then -q.1 else q.1
def cutD2 (q : Q2) : Int := if q.1 - q.2 < 0 then -(q.1 - q.2) else q.1 - q.2
def cutsF (f : List Fr) (q : Q2) : List Fr := if 0 < cutD2 q ∧ 0 < cutN q ∧ cutN q < cutD2 q then f ++ [(cutN q, cutD2 q)] else f
def cutsQ (qs : List Q2) : List Fr := qs.foldl cutsF [(0, 1), (1, 1)]
structure Unit01 (c : Fr) : Prop where
  d : 0 < c.2
  a : 0 ≤ c.1
  b : c.1 ≤ c.2
theorem cutsF_mem {f : List Fr} {q : Q2} {c : Fr} : c ∈ cutsF f q ↔ c ∈ f ∨ (0 < cutD2 q ∧ 0 < cutN q ∧ cutN q < cutD2 q ∧ c = (cutN q, cutD2 q)) := by
  unfold cutsF
  split
  · rename_i h
    rw [List.mem_append, List.mem_singleton]
    exact ⟨fun k => k.imp id fun e => ⟨h.1, h.2.1, h.2.2, e⟩, fun k => k.imp id fun e => e.2.2.2⟩
  · rename_i h
    exact ⟨.inl, fun k => k.elim id fun e => absurd ⟨e.1, e.2.1, e.2.2.1⟩ h⟩
theorem foldC_mem : ∀ {qs : List Q2} {f : List Fr} {c : Fr}, c ∈ qs.foldl cutsF f ↔ c ∈ f ∨ ∃ q ∈ qs, 0 < cutD2 q ∧ 0 < cutN q ∧ cutN q < cutD2 q ∧ c = (cutN q, cutD2 q)
  | [], f, c => by simp
  | q :: qs, f, c => by
    rw [List.foldl_cons, foldC_mem, cutsF_mem]
    constructor
    · rintro ((h | h) | ⟨z, hz, h⟩)
      · exact .inl h
      · exact .inr ⟨q, List.mem_cons_self, h⟩
      · exact .inr ⟨z, List.mem_cons_of_mem _ hz, h⟩
    · rintro (h | ⟨z, hz, h⟩)
      · exact .inl (.inl h)
      · rcases List.mem_cons.mp hz with rfl | hz
        · exact .inl (.inr h)
        · exact .inr ⟨z, hz, h⟩
theorem cutsF_len (f : List Fr) (q : Q2) : (cutsF f q).length ≤ f.length + 1 := by
  unfold cutsF
  split
  · rw [List.length_append, List.length_singleton]
    omega
  · omega
theorem cuts_unit {qs : List Q2} {c : Fr} (h : c ∈ cutsQ qs) : Unit01 c := by
  unfold cutsQ at h
  rw [foldC_mem] at h
  rcases h with h | ⟨q, _, h1, h2, h3, rfl⟩
  · simp only [List.mem_cons, List.not_mem_nil, or_false] at h
    rcases h with rfl | rfl
    · exact ⟨by decide, by decide, by decide⟩
    · exact ⟨by decide, by decide, by decide⟩
  · exact ⟨h1, Int.le_of_lt h2, Int.le_of_lt h3⟩
theorem max_below {n d : Int} (hd : 0 < d) : ∀ {l : List Fr}, (∀ c ∈ l, 0 < c.2) → (∃ c ∈ l, c.1 * d ≤ n * c.2) → ∃ c ∈ l, c.1 * d ≤ n * c.2 ∧ ∀ c' ∈ l, c'.1 * d ≤ n * c'.2 → c'.1 * c.2 ≤ c.1 * c'.2
  | [], _, h => by
    obtain ⟨_, h, _⟩ := h
    cases h
  | a :: l, hp, h => by
    by_cases k : ∃ c ∈ l, c.1 * d ≤ n * c.2
    · obtain ⟨c, hc, h1, h2⟩ := max_below hd (fun c hc => hp c (List.mem_cons_of_mem _ hc)) k
      have pc := hp c (List.mem_cons_of_mem _ hc)
      have pa := hp a List.mem_cons_self
      by_cases ka : a.1 * d ≤ n * a.2 ∧ c.1 * a.2 < a.1 * c.2
      · refine ⟨a, List.mem_cons_self, ka.1, fun c' hc' h' => ?_⟩
        rcases List.mem_cons.mp hc' with rfl | hc'
        · exact Int.le_refl _
        · have h3 := h2 c' hc' h'
          have pc' := hp c' (List.mem_cons_of_mem _ hc')
          -- c' ≤ c < a
          exact fr_le (l := c'.1) (u := c'.2) (l' := c.1) (u' := c.2) (n := a.1) (d := a.2) pc (Int.le_of_lt pc') (Int.le_of_lt pa) h3 (Int.le_of_lt ka.2)
      · refine ⟨c, List.mem_cons_of_mem _ hc, h1, fun c' hc' h' => ?_⟩
        rcases List.mem_cons.mp hc' with rfl | hc'
        · rcases Int.lt_or_le (c.1 * c'.2) (c'.1 * c.2) with z | z
          · exact absurd ⟨h', z⟩ ka
          · exact z
        · exact h2 c' hc' h'
    · obtain ⟨c, hc, h1⟩ := h
      rcases List.mem_cons.mp hc with rfl | hc
      · refine ⟨c, List.mem_cons_self, h1, fun c' hc' h' => ?_⟩
        rcases List.mem_cons.mp hc' with rfl | hc'
        · exact Int.le_refl _
        · exact absurd ⟨c', hc', h'⟩ k
      · exact absurd ⟨c, hc, h1⟩ k
theorem min_above {n d : Int} (hd : 0 < d) {l : List Fr} (hp : ∀ c ∈ l, 0 < c.2) (h : ∃ c ∈ l, n * c.2 ≤ c.1 * d) : ∃ c ∈ l, n * c.2 ≤ c.1 * d ∧ ∀ c' ∈ l, n * c'.2 ≤ c'.1 * d → c.1 * c'.2 ≤ c'.1 * c.2 := by
  obtain ⟨c, hc, h1, h2⟩ := max_below (n := -n) hd (l := l.map fun c => (-c.1, c.2)) (fun c hc => by
    obtain ⟨z, hz, rfl⟩ := List.mem_map.mp hc
    exact hp z hz) (by
    obtain ⟨c, hc, h⟩ := h
    refine ⟨_, List.mem_map.mpr ⟨c, hc, rfl⟩, ?_⟩
    simp only [Int.neg_mul]
    omega)
  obtain ⟨z, hz, rfl⟩ := List.mem_map.mp hc
  refine ⟨z, hz, ?_, fun c' hc' h' => ?_⟩
  · simp only [Int.neg_mul] at h1
    omega
  · have := h2 _ (List.mem_map.mpr ⟨c', hc', rfl⟩) (by simp only [Int.neg_mul]; omega)
    simp only [Int.neg_mul] at this
    omega
theorem ev_same {q : Q2} {n d m k : Int} (hk : 0 < k) (hd : 0 < d) (e : m * d = n * k) (h : 0 < ev q n d) : 0 < ev q m k := by
  have : d * ev q m k = k * ev q n d := by
    rw [ev_eq, ev_eq, Int.mul_add, Int.mul_add]
    have e1 : d * (q.1 * k) = k * (q.1 * d) := by grind
    have e2 : d * ((q.2 - q.1) * m) = (q.2 - q.1) * (m * d) := by grind
    have e3 : k * ((q.2 - q.1) * n) = (q.2 - q.1) * (n * k) := by grind
    rw [e1, e2, e3, e]
  exact pos_of_mul hd (by rw [this]; exact Int.mul_pos hk h)
theorem cut_pos {q : Q2} (h : 0 < q.1 - q.2) : cutN q = q.1 ∧ cutD2 q = q.1 - q.2 := by
  unfold cutN cutD2
  rw [if_neg (by omega), if_neg (by omega)]
  exact ⟨rfl, rfl⟩
theorem cut_neg {q : Q2} (h : q.1 - q.2 < 0) : cutN q = -q.1 ∧ cutD2 q = -(q.1 - q.2) := by
  unfold cutN cutD2
  rw [if_pos h, if_pos h]
  exact ⟨rfl, rfl⟩
def midN (a b : Fr) : Int := a.1 * b.2 + b.1 * a.2
def midD (a b : Fr) : Int := 2 * a.2 * b.2
theorem mid_unit {a b : Fr} (ha : Unit01 a) (hb : Unit01 b) : 0 < midD a b ∧ 0 ≤ midN a b ∧ midN a b ≤ midD a b := by
  have h1 := Int.mul_pos ha.d hb.d
  have h2 := Int.mul_nonneg ha.a (Int.le_of_lt hb.d)
  have h3 := Int.mul_nonneg hb.a (Int.le_of_lt ha.d)
  have h4 := Int.mul_le_mul_of_nonneg_right ha.b (Int.le_of_lt hb.d)
  have h5 := Int.mul_le_mul_of_nonneg_right hb.b (Int.le_of_lt ha.d)
  have e : midD a b = 2 * (a.2 * b.2) := by unfold midD; rw [Int.mul_assoc]
  have e2 : b.2 * a.2 = a.2 * b.2 := Int.mul_comm _ _
  unfold midN
  rw [e]
  omega
theorem mid_lt {a b : Fr} (ha : 0 < a.2) (hb : 0 < b.2) (h : a.1 * b.2 < b.1 * a.2) : a.1 * midD a b < midN a b * a.2 ∧ midN a b * b.2 < b.1 * midD a b := by
  unfold midN midD
  have h1 := Int.mul_pos ha (show 0 < b.1 * a.2 - a.1 * b.2 by omega)
  have h2 := Int.mul_pos hb (show 0 < b.1 * a.2 - a.1 * b.2 by omega)
  constructor
  · have : (a.1 * b.2 + b.1 * a.2) * a.2 - a.1 * (2 * a.2 * b.2) = a.2 * (b.1 * a.2 - a.1 * b.2) := by grind
    omega
  · have : b.1 * (2 * a.2 * b.2) - (a.1 * b.2 + b.1 * a.2) * b.2 = b.2 * (b.1 * a.2 - a.1 * b.2) := by grind
    omega
theorem inside_cut {qs : List Q2} {n d : Int} (hd : 0 < d) (n0 : 0 ≤ n) (n1 : n ≤ d) (hp : ∀ q ∈ qs, 0 < ev q n d) :
    ∃ c ∈ cutsQ qs, (∀ q ∈ qs, 0 < ev q c.1 c.2) ∨ ∃ c' ∈ cutsQ qs, ∀ q ∈ qs, 0 < ev q (midN c c') (midD c c') := by
  have m0 : ((0, 1) : Fr) ∈ cutsQ qs := by unfold cutsQ; rw [foldC_mem]; exact .inl (by simp)
  have m1 : ((1, 1) : Fr) ∈ cutsQ qs := by unfold cutsQ; rw [foldC_mem]; exact .inl (by simp)
  have un : ∀ c ∈ cutsQ qs, 0 < c.2 := fun c hc => (cuts_unit hc).d
  obtain ⟨a, ha, a1, a2⟩ := max_below (n := n) hd un ⟨_, m0, by simp only [Int.zero_mul, Int.mul_one]; exact n0⟩
  obtain ⟨b, hb, b1, b2⟩ := min_above (n := n) hd un ⟨_, m1, by simp only [Int.one_mul, Int.mul_one]; exact n1⟩
  have ua := cuts_unit ha
  have ub := cuts_unit hb
  by_cases ka : a.1 * d = n * a.2
  · exact ⟨a, ha, .inl fun q hq => ev_same ua.d hd ka (hp q hq)⟩
  by_cases kb : n * b.2 = b.1 * d
  · exact ⟨b, hb, .inl fun q hq => ev_same ub.d hd kb.symm (hp q hq)⟩
  have la : a.1 * d < n * a.2 := by omega
  have lb : n * b.2 < b.1 * d := by omega
  have lab : a.1 * b.2 < b.1 * a.2 := fr_lt (l := a.1) (u := a.2) (l' := n) (u' := d) (n := b.1) (d := b.2) hd (Int.le_of_lt ua.d) ub.d la b1
  obtain ⟨x1, x2⟩ := mid_lt ua.d ub.d lab
  obtain ⟨y1, y2, y3⟩ := mid_unit ua ub
  refine ⟨a, ha, .inr ⟨b, hb, fun q hq => ?_⟩⟩
  rcases Int.lt_or_le 0 (ev q (midN a b) (midD a b)) with z | z
  · exact z
  exfalso
  have hq0 := hp q hq
  rw [ev_eq] at hq0 z
  generalize midN a b = M at *
  generalize midD a b = E at *
  rcases Int.lt_trichotomy (q.1 - q.2) 0 with k | k | k
  · obtain ⟨e1, e2⟩ := cut_neg k
    generalize hN : cutN q = N at *
    generalize hD : cutD2 q = D at *
    have f1 : ∀ x y : Int, q.1 * y + (q.2 - q.1) * x = D * x - N * y := fun x y => by rw [e1, e2]; grind
    rw [f1] at hq0 z
    have D0 : 0 < D := by omega
    -- M ≤ z < t
    have c1 : M * D ≤ N * E := by
      have := Int.mul_comm D M
      omega
    have c2 : N * d < n * D := by
      have := Int.mul_comm D n
      omega
    have c3 : a.1 * D < N * a.2 := fr_lt (l := a.1) (u := a.2) (l' := M) (u' := E) (n := N) (d := D) y1 (Int.le_of_lt ua.d) D0 x1 c1
    have N0 : 0 < N := by
      have := Int.mul_nonneg ua.a (Int.le_of_lt D0)
      have h : 0 < a.2 * N := by rw [Int.mul_comm]; omega
      exact pos_of_mul ua.d h
    have ND : N < D := by
      have h : 0 < d * (D - N) := by
        have := Int.mul_le_mul_of_nonneg_right n1 (Int.le_of_lt D0)
        rw [Int.mul_sub, Int.mul_comm d N]
        omega
      have := pos_of_mul hd h
      omega
    have mem : (N, D) ∈ cutsQ qs := by
      unfold cutsQ
      rw [foldC_mem]
      exact .inr ⟨q, hq, by rw [hD]; exact D0, by rw [hN]; exact N0, by rw [hN, hD]; exact ND, by rw [hN, hD]⟩
    have := a2 _ mem (Int.le_of_lt c2)
    simp only [] at this
    omega
  · have e : q.2 - q.1 = 0 := by omega
    rw [e, Int.zero_mul, Int.add_zero] at hq0 z
    have : 0 < q.1 := pos_of_mul hd (by rw [Int.mul_comm]; exact hq0)
    have := Int.mul_pos this y1
    omega
  · obtain ⟨e1, e2⟩ := cut_pos k
    generalize hN : cutN q = N at *
    generalize hD : cutD2 q = D at *
    have f1 : ∀ x y : Int, q.1 * y + (q.2 - q.1) * x = N * y - D * x := fun x y => by rw [e1, e2]; grind
    rw [f1] at hq0 z
    have D0 : 0 < D := by omega
    -- t < z ≤ M
    have c1 : N * E ≤ M * D := by
      have := Int.mul_comm D M
      omega
    have c2 : n * D < N * d := by
      have := Int.mul_comm D n
      omega
    have c3 : N * b.2 < b.1 * D := fr_lt2 (l := N) (u := D) (l' := M) (u' := E) (n := b.1) (d := b.2) y1 D0 (Int.le_of_lt ub.d) c1 x2
    have N0 : 0 < N := by
      have := Int.mul_nonneg n0 (Int.le_of_lt D0)
      exact pos_of_mul hd (by rw [Int.mul_comm]; omega)
    have ND : N < D := by
      have h : 0 < b.2 * (D - N) := by
        have := Int.mul_le_mul_of_nonneg_right ub.b (Int.le_of_lt D0)
        rw [Int.mul_sub, Int.mul_comm b.2 N]
        omega
      have := pos_of_mul ub.d h
      omega
    have mem : (N, D) ∈ cutsQ qs := by
      unfold cutsQ
      rw [foldC_mem]
      exact .inr ⟨q, hq, by rw [hD]; exact D0, by rw [hN]; exact N0, by rw [hN, hD]; exact ND, by rw [hN, hD]⟩
    have := b2 _ mem (Int.le_of_lt c2)
    simp only [] at this
    omega
theorem inside_iff {qs : List Q2} : (∃ n d : Int, 0 < d ∧ 0 ≤ n ∧ n ≤ d ∧ ∀ q ∈ qs, 0 < ev q n d) ↔ ∃ c ∈ cutsQ qs, (∀ q ∈ qs, 0 < ev q c.1 c.2) ∨ ∃ c' ∈ cutsQ qs, ∀ q ∈ qs, 0 < ev q (midN c c') (midD c c') := by
  constructor
  · rintro ⟨n, d, hd, n0, n1, hp⟩
    exact inside_cut hd n0 n1 hp
  · rintro ⟨c, hc, h | ⟨c', hc', h⟩⟩
    · have u := cuts_unit hc
      exact ⟨c.1, c.2, u.d, u.a, u.b, h⟩
    · obtain ⟨h1, h2, h3⟩ := mid_unit (cuts_unit hc) (cuts_unit hc')
      exact ⟨_, _, h1, h2, h3, h⟩
end GM

/-! GM15: upright rectangles; sums by what is turned over; points outside of a side. -/
namespace GM
def boxP (l b r t : Int) : List P2 := [(l, b), (r, b), (r, t), (l, t)]
theorem box_mem {l b r t : Int} {p : P2} : p ∈ boxP l b r t ↔ p = (l, b) ∨ p = (r, b) ∨ p = (r, t) ∨ p = (l, t) := by
  unfold boxP
  simp only [List.mem_cons, List.not_mem_nil, or_false]
theorem box_hull {l b r t : Int} (h1 : l < r) (h2 : b < t) : IsHull (boxP l b r t) (boxP l b r t) := by
  have hp := Int.mul_pos (show 0 < r - l by omega) (show 0 < t - b by omega)
  have self : ∀ {a c : P2}, Seg a a c ∧ Seg c a c := fun {a c} => ⟨seg_left a c, seg_right a c⟩
  refine ⟨fun _ h => h, ?_, (l, b), [(r, b), (r, t), (l, t)], rfl, fun p hp => ?_, ?_, ?_, ?_, ?_, trivial⟩
  · unfold boxP
    have e1 : l ≠ r := by omega
    have e2 : b ≠ t := by omega
    have e3 : r ≠ l := by omega
    have e4 : t ≠ b := by omega
    simp [e1, e2, e3, e4]
  · rcases box_mem.mp hp with rfl | rfl | rfl | rfl
    · exact .inl rfl
    · exact .inr (.inl h1)
    · exact .inr (.inl h1)
    · exact .inr (.inr ⟨rfl, h2⟩)
  · intro p hp'
    rcases box_mem.mp hp' with rfl | rfl | rfl | rfl
    · exact .inr (seg_left _ _)
    · exact .inr (seg_right _ _)
    · left
      have : area (l, b) (r, b) (r, t) = (r - l) * (t - b) := by unfold area; simp only []; grind
      rw [this]; exact hp
    · left
      have : area (l, b) (r, b) (l, t) = (r - l) * (t - b) := by unfold area; simp only []; grind
      rw [this]; exact hp
  · intro p hp'
    rcases box_mem.mp hp' with rfl | rfl | rfl | rfl
    · left
      have : area (r, b) (r, t) (l, b) = (r - l) * (t - b) := by unfold area; simp only []; grind
      rw [this]; exact hp
    · exact .inr (seg_left _ _)
    · exact .inr (seg_right _ _)
    · left
      have : area (r, b) (r, t) (l, t) = (r - l) * (t - b) := by unfold area; simp only []; grind
      rw [this]; exact hp
  · intro p hp'
    rcases box_mem.mp hp' with rfl | rfl | rfl | rfl
    · left
      have : area (r, t) (l, t) (l, b) = (r - l) * (t - b) := by unfold area; simp only []; grind
      rw [this]; exact hp
    · left
      have : area (r, t) (l, t) (r, b) = (r - l) * (t - b) := by unfold area; simp only []; grind
      rw [this]; exact hp
    · exact .inr (seg_left _ _)
    · exact .inr (seg_right _ _)
  · intro p hp'
    rcases box_mem.mp hp' with rfl | rfl | rfl | rfl
    · exact .inr (seg_right _ _)
    · left
      have : area (l, t) (l, b) (r, b) = (r - l) * (t - b) := by unfold area; simp only []; grind
      rw [this]; exact hp
    · left
      have : area (l, t) (l, b) (r, t) = (r - l) * (t - b) := by unfold area; simp only []; grind
      rw [this]; exact hp
    · exact .inr (seg_left _ _)
/-- a point of the sum of a piece and another one turned over: the other one, moved to the point, meets the piece -/
theorem sum_meets {A B S T : List P2} {w : Int} {p : P2} (hw : 0 < w) (hS : IsHull S S) (s1 : ∀ s ∈ S, ∃ a ∈ A, ∃ t ∈ T, s = addP a t) (s2 : ∀ a ∈ A, ∀ t ∈ T, In S (addP a t)) (a0 : 0 < A.length) (b0 : 0 < B.length)
    (t1 : ∀ t ∈ T, ∃ b ∈ B, t = negP b) (t2 : ∀ b ∈ B, In T (negP b)) : In (scL w S) p ↔ ∃ k x, 0 < k ∧ In (scL k (scL w A)) x ∧ In (scL k (addL p (scL w B))) x := by
  refine sum_in (B := B.map negP) hw (fun _ _ => trivial) hS (fun s hs => ?_) (fun a ha n hn => ?_) a0 (by rw [List.length_map]; exact b0) (fun m hm => ?_) fun n hn => ?_
  · obtain ⟨a, ha, t, ht, rfl⟩ := s1 s hs
    obtain ⟨b, hb, rfl⟩ := t1 t ht
    exact ⟨a, ha, _, List.mem_map.mpr ⟨b, hb, rfl⟩, rfl⟩
  · obtain ⟨b, hb, rfl⟩ := List.mem_map.mp hn
    intro f hf
    have := t2 b hb (f.1, f.2.1, f.2.2 - f.1 * a.1 - f.2.1 * a.2) fun t ht => by
      have := s2 a ha t ht f hf
      have e : cv (f.1, f.2.1, f.2.2 - f.1 * a.1 - f.2.1 * a.2) t = cv f (addP a t) := by
        unfold cv addP
        simp only []
        grind
      rw [e]
      exact this
    have e : cv (f.1, f.2.1, f.2.2 - f.1 * a.1 - f.2.1 * a.2) (negP b) = cv f (addP a (negP b)) := by
      unfold cv addP
      simp only []
      grind
    rw [e] at this
    exact this
  · obtain ⟨q, hq, rfl⟩ := mem_add.mp hm
    obtain ⟨b, hb, rfl⟩ := mem_sc.mp hq
    refine ⟨_, List.mem_map.mpr ⟨b, hb, rfl⟩, ?_⟩
    unfold addP sc negP subP
    simp only [Int.mul_neg]
    exact Prod.ext (by simp only []; omega) (by simp only []; omega)
  · obtain ⟨b, hb, rfl⟩ := List.mem_map.mp hn
    have e : subP p (sc w (negP b)) = addP p (sc w b) := by
      unfold addP sc negP subP
      simp only [Int.mul_neg]
      exact Prod.ext (by simp only []; omega) (by simp only []; omega)
    rw [e]
    exact in_self (mem_add.mpr ⟨_, mem_sc.mpr ⟨b, hb, rfl⟩, rfl⟩)
end GM

/-! TX1: written forms, on lists of signs. -/
namespace TX
open PySem
open TL (numL)
/-! ### digits -/
def isDg (c : Nat) : Bool := decide (48 ≤ c) && decide (c ≤ 57)
theorem num_dg (n : Nat) : ∀ c ∈ numL n, isDg c = true := fun c hc => by
  have := TL.numL_digits n c hc
  unfold isDg
  simp
  omega
/-- the last k digits, with zeros ahead -/
def padL : Nat → Nat → List Nat
  | 0, _ => []
  | k + 1, m => padL k (m / 10) ++ [48 + m % 10]
theorem padL_succ (k m : Nat) : padL (k + 1) m = padL k (m / 10) ++ [48 + m % 10] := rfl
theorem padL_len : ∀ (k m : Nat), (padL k m).length = k
  | 0, _ => rfl
  | k + 1, m => by unfold padL; rw [List.length_append, padL_len]; rfl
theorem padL_zero : ∀ k : Nat, padL k 0 = List.replicate k 48
  | 0 => rfl
  | k + 1 => by
    unfold padL
    rw [Nat.zero_div, padL_zero k, List.replicate_succ']
theorem num_split : ∀ (k n : Nat), 10 ^ k ≤ n → numL n = numL (n / 10 ^ k) ++ padL k (n % 10 ^ k)
  | 0, n, h => by
    unfold padL
    rw [Nat.pow_zero, Nat.div_one, List.append_nil]
  | k + 1, n, h => by
    have hp : 0 < 10 ^ k := Nat.pow_pos (by decide)
    have e10 : 10 ^ (k + 1) = 10 ^ k * 10 := Nat.pow_succ ..
    have h10 : 10 ≤ n := by
      have : 10 ≤ 10 ^ k * 10 := by omega
      omega
    have ih := num_split k (n / 10) (by
      rw [Nat.le_div_iff_mul_le (by decide)]
      omega)
    rw [TL.numL_step h10, ih, List.append_assoc, padL_succ]
    have a1 : n / 10 / 10 ^ k = n / 10 ^ (k + 1) := by rw [Nat.div_div_eq_div_mul, e10, Nat.mul_comm]
    have a2 : n % 10 ^ (k + 1) / 10 = n / 10 % 10 ^ k := by
      rw [e10, Nat.mul_comm, Nat.mod_mul_right_div_self]
    have a3 : n % 10 ^ (k + 1) % 10 = n % 10 := Nat.mod_mod_of_dvd _ ⟨10 ^ k, by rw [e10, Nat.mul_comm]⟩
    rw [a1, a2, a3]
theorem pad_num : ∀ (k m : Nat), 0 < k → m < 10 ^ k → padL k m = List.replicate (k - (numL m).length) 48 ++ numL m
  | 0, _, h, _ => absurd h (by decide)
  | k + 1, m, _, h => by
    by_cases hm : m < 10
    · have e0 : m / 10 = 0 := by omega
      have e1 : m % 10 = m := Nat.mod_eq_of_lt hm
      rw [padL_succ, e0, e1, padL_zero, TL.numL_lt hm]
      rfl
    · have hk : 0 < k := by
        rcases Nat.eq_zero_or_pos k with z | z
        · subst z
          simp at h
          omega
        · exact z
      have h2 : m / 10 < 10 ^ k := by
        rw [Nat.div_lt_iff_lt_mul (by decide)]
        rw [Nat.pow_succ] at h
        exact h
      have ih := pad_num k (m / 10) hk h2
      have e := TL.numL_step (n := m) (by omega)
      have l1 : (numL m).length = (numL (m / 10)).length + 1 := by rw [e, List.length_append]; rfl
      have l2 : k - (numL (m / 10)).length = k + 1 - (numL m).length := by omega
      rw [padL_succ, ih, e, List.append_assoc, ← e, l2]
/-! ### written forms -/
inductive Thg where
  | int (i : Int) | txt (l : List Nat) | tup (ts : List Thg)
def numZ (i : Int) : List Nat := if i < 0 then 45 :: numL i.natAbs else numL i.natAbs
mutual
def wr : Thg → List Nat
  | .int i => numZ i
  | .txt l => numL l.length ++ 58 :: l
  | .tup ts => 40 :: (wrs ts ++ [41])
/-- with commas between -/
def wrs : List Thg → List Nat
  | [] => []
  | t :: ts => wr t ++ wrm ts
/-- a comma ahead of each -/
def wrm : List Thg → List Nat
  | [] => []
  | t :: ts => 44 :: (wr t ++ wrm ts)
end
mutual
def dep : Thg → Nat
  | .int _ => 0
  | .txt _ => 0
  | .tup ts => deps ts + 1
def deps : List Thg → Nat
  | [] => 0
  | t :: ts => max (dep t) (deps ts)
end
mutual
/-- integers of at most 200 digits, texts of at most 99 signs -/
def okT : Thg → Bool
  | .int i => decide ((numL i.natAbs).length ≤ 200)
  | .txt l => decide (l.length ≤ 99)
  | .tup ts => okTs ts
def okTs : List Thg → Bool
  | [] => true
  | t :: ts => okT t && okTs ts
end
/-! ### reading -/
def spanD : List Nat → List Nat × List Nat
  | [] => ([], [])
  | c :: r => if isDg c = true then ((c :: (spanD r).1), (spanD r).2) else ([], c :: r)
theorem span_eq : ∀ l : List Nat, l = (spanD l).1 ++ (spanD l).2
  | [] => rfl
  | c :: r => by
    unfold spanD
    split
    · show c :: r = c :: ((spanD r).1 ++ (spanD r).2)
      rw [← span_eq r]
    · rfl
theorem span_dg : ∀ l : List Nat, ∀ c ∈ (spanD l).1, isDg c = true
  | [], _, h => nomatch h
  | d :: r, c, h => by
    unfold spanD at h
    split at h
    · rename_i hd
      rcases List.mem_cons.mp h with rfl | h
      · exact hd
      · exact span_dg r c h
    · exact nomatch h
/-- what follows does not go on with a digit -/
def noDg (r : List Nat) : Prop := ∀ c r', r = c :: r' → isDg c = false
theorem span_no : ∀ l : List Nat, noDg (spanD l).2
  | [], c, r', h => by cases h
  | d :: r, c, r', h => by
    unfold spanD at h
    split at h
    · exact span_no r c r' h
    · rename_i hd
      cases h
      cases e : isDg d with
      | true => exact absurd e hd
      | false => rfl
theorem span_app : ∀ (l r : List Nat), (∀ c ∈ l, isDg c = true) → noDg r → spanD (l ++ r) = (l, r)
  | [], r, _, hr => by
    cases r with
    | nil => rfl
    | cons c r =>
      show spanD (c :: r) = _
      unfold spanD
      rw [hr c r rfl, if_neg (by decide)]
  | c :: l, r, h, hr => by
    show spanD (c :: (l ++ r)) = _
    unfold spanD
    rw [h c List.mem_cons_self, if_pos rfl, span_app l r (fun d hd => h d (List.mem_cons_of_mem _ hd)) hr]
/-- an integer of at most so many digits -/
def intL (ds : List Nat) (most : Nat) : Option Nat := if (1 ≤ ds.length ∧ ds.length ≤ most) ∧ ¬ (ds.head? = some 48 ∧ ds ≠ [48]) then some (NumText.digitsVal ds) else none
def pParts (pt : List Nat → Option (Thg × List Nat)) : Nat → List Nat → Option (List Thg × List Nat)
  | 0, _ => none
  | f + 1, l => match pt l with
    | none => none
    | some (t, r) => match r with
      | 44 :: r2 => (pParts pt f r2).map fun q => (t :: q.1, q.2)
      | 41 :: r2 => some ([t], r2)
      | _ => none
def pNum (l : List Nat) : Option (Thg × List Nat) :=
  match (spanD l).2 with
  | 58 :: r => (match intL (spanD l).1 2 with
    | none => none
    | some n => if n ≤ r.length then some (.txt (r.take n), r.drop n) else none)
  | r => (intL (spanD l).1 200).map fun (n : Nat) => (.int n, r)
mutual
def pThing : Nat → Nat → List Nat → Option (Thg × List Nat)
  | 0, _, _ => none
  | j + 1, d, l => match l with
    | 40 :: r => pTuple j (d + 1) r
    | 45 :: r => if (spanD r).1 = [48] then none else (intL (spanD r).1 200).map fun (n : Nat) => (.int (-(n : Int)), (spanD r).2)
    | _ => pNum l
def pTuple : Nat → Nat → List Nat → Option (Thg × List Nat)
  | 0, _, _ => none
  | j + 1, d, l => if 40 < d then none else match l with
    | 41 :: r => some (.tup [], r)
    | _ => (pParts (pThing j d) (l.length + 1) l).map fun q => (.tup q.1, q.2)
end
def pRead (j : Nat) (l : List Nat) : Option Thg := match pThing j 0 l with
  | some (t, []) => some t
  | _ => none
/-! ### what is read is written so -/
theorem num_uniq : ∀ (ds : List Nat), (∀ c ∈ ds, isDg c = true) → 1 ≤ ds.length → ¬ (ds.head? = some 48 ∧ ds ≠ [48]) → numL (NumText.digitsVal ds) = ds := by
  -- from the right
  have val : ∀ (ds : List Nat) (c : Nat), NumText.digitsVal (ds ++ [c]) = NumText.digitsVal ds * 10 + (c - 48) := fun ds c => by
    unfold NumText.digitsVal
    rw [List.foldl_append]
    rfl
  have key : ∀ (n : Nat) (ds : List Nat), ds.length = n → (∀ c ∈ ds, isDg c = true) → 1 ≤ ds.length → ¬ (ds.head? = some 48 ∧ ds ≠ [48]) → numL (NumText.digitsVal ds) = ds := by
    intro n
    induction n with
    | zero => intro ds h0 _ h; omega
    | succ n ihn =>
      intro ds0 hl hd h1 hz
      rcases List.eq_nil_or_concat ds0 with rfl | ⟨ds, c, rfl⟩
      · simp at h1
      have hc : 48 ≤ c ∧ c ≤ 57 := by
        have := hd c (by simp)
        unfold isDg at this
        simp at this
        exact this
      rw [List.concat_eq_append] at *
      rw [val]
      cases ds with
      | nil =>
        show numL (0 * 10 + (c - 48)) = [c]
        rw [TL.numL_lt (by omega)]
        congr 1
        omega
      | cons d ds =>
        have hd2 : ∀ x ∈ d :: ds, isDg x = true := fun x hx => hd x (List.mem_append_left _ hx)
        have nz : ¬ ((d :: ds).head? = some 48) := fun e => hz ⟨by simpa using e, by simp⟩
        have ih2 := ihn (d :: ds) (by simp at hl ⊢; omega) hd2 (by simp) (fun z => nz z.1)
        have pos : 0 < NumText.digitsVal (d :: ds) := by
          rcases Nat.eq_zero_or_pos (NumText.digitsVal (d :: ds)) with z | z
          · rw [z, TL.numL_lt (by decide)] at ih2
            have : d = 48 := by
              have := congrArg List.head? ih2
              simpa using this.symm
            exact absurd (by rw [this]; rfl) nz
          · exact z
        rw [TL.numL_step (by omega)]
        have e1 : (NumText.digitsVal (d :: ds) * 10 + (c - 48)) / 10 = NumText.digitsVal (d :: ds) := by omega
        have e2 : (NumText.digitsVal (d :: ds) * 10 + (c - 48)) % 10 = c - 48 := by omega
        rw [e1, e2, ih2]
        congr 2
        omega
  exact fun ds => key ds.length ds rfl
theorem int_ok {ds : List Nat} {most n : Nat} (hd : ∀ c ∈ ds, isDg c = true) (h : intL ds most = some n) : numL n = ds ∧ ds.length ≤ most := by
  unfold intL at h
  split at h
  · rename_i hc
    cases h
    exact ⟨num_uniq ds hd hc.1.1 hc.2, hc.1.2⟩
  · cases h
theorem int_num {n most : Nat} (h : (numL n).length ≤ most) : intL (numL n) most = some n := by
  have hne : (numL n).length ≠ 0 := fun z => TL.numL_ne n (List.length_eq_zero_iff.mp z)
  have hz : ¬ ((numL n).head? = some 48 ∧ numL n ≠ [48]) := by
    intro ⟨a, b⟩
    -- a numeral that begins with 0 is 0
    have key : ∀ n : Nat, (numL n).head? = some 48 → n = 0 := fun n => by
      induction n using Nat.strongRecOn with
      | _ n ih =>
        intro e
        by_cases h10 : n < 10
        · rw [TL.numL_lt h10] at e
          simp at e
          omega
        · rw [TL.numL_step (by omega)] at e
          have hn : numL (n / 10) ≠ [] := TL.numL_ne _
          have e2 : (numL (n / 10)).head? = some 48 := by
            cases q : numL (n / 10) with
            | nil => exact absurd q hn
            | cons a l => rw [q] at e; simpa using e
          have := ih (n / 10) (by omega) e2
          omega
    have := key n a
    subst this
    exact b (TL.numL_lt (by decide))
  unfold intL
  rw [if_pos ⟨⟨by omega, h⟩, hz⟩, TL.numL_val]
end TX

/-! TX2: what is read is written so, and what is written is read back. -/
namespace TX
open PySem
open TL (numL)
theorem wr_int (i : Int) : wr (.int i) = numZ i := by unfold wr; rfl
theorem wr_txt (l : List Nat) : wr (.txt l) = numL l.length ++ 58 :: l := by unfold wr; rfl
theorem wr_tup (ts : List Thg) : wr (.tup ts) = 40 :: (wrs ts ++ [41]) := by rw [wr]
theorem wrs_cons (t : Thg) (ts : List Thg) : wrs (t :: ts) = wr t ++ wrm ts := by rw [wrs]
theorem wrm_cons (t : Thg) (ts : List Thg) : wrm (t :: ts) = 44 :: (wr t ++ wrm ts) := by rw [wrm]
theorem wrs_nil : wrs [] = [] := by rw [wrs]
theorem wrm_nil : wrm [] = [] := by rw [wrm]
theorem wrs_cons2 (t t2 : Thg) (ts : List Thg) (r : List Nat) : wrs (t :: t2 :: ts) ++ r = wr t ++ (44 :: (wrs (t2 :: ts) ++ r)) := by
  rw [wrs_cons t, wrm_cons, wrs_cons t2]
  simp only [List.append_assoc, List.cons_append]
theorem pThing_succ (j d : Nat) (l : List Nat) : pThing (j + 1) d l = (match l with
    | 40 :: r => pTuple j (d + 1) r
    | 45 :: r => if (spanD r).1 = [48] then none else (intL (spanD r).1 200).map fun (n : Nat) => (.int (-(n : Int)), (spanD r).2)
    | _ => pNum l) := by rw [pThing.eq_def]; all_goals rfl
theorem pTuple_succ (j d : Nat) (l : List Nat) : pTuple (j + 1) d l = (if 40 < d then none else match l with
    | 41 :: r => some (.tup [], r)
    | _ => (pParts (pThing j d) (l.length + 1) l).map fun q => (.tup q.1, q.2)) := by rw [pTuple.eq_def]; all_goals rfl
theorem num_cons (n : Nat) : ∃ c l, numL n = c :: l ∧ isDg c = true := by
  cases h : numL n with
  | nil => exact absurd h (TL.numL_ne n)
  | cons c l => exact ⟨c, l, rfl, num_dg n c (by rw [h]; exact List.mem_cons_self)⟩
theorem wr_pos (t : Thg) : 0 < (wr t).length := by
  cases t with
  | int i =>
    rw [wr_int]
    unfold numZ
    obtain ⟨c, l, e, _⟩ := num_cons i.natAbs
    split
    · simp
    · rw [e]; simp
  | txt l => rw [wr_txt, List.length_append]; simp; omega
  | tup ts => rw [wr_tup]; simp
theorem parts_pos {pt : List Nat → Option (Thg × List Nat)} : ∀ (f : Nat) (l : List Nat) (ts : List Thg) (r : List Nat), pParts pt f l = some (ts, r) → ts ≠ []
  | 0, _, _, _, h => by cases h
  | f + 1, l, ts, r, h => by
    unfold pParts at h
    split at h
    · cases h
    · split at h
      · cases e : pParts pt f _ with
        | none => rw [e] at h; cases h
        | some q => rw [e] at h; cases h; simp
      · cases h; simp
      · cases h
/-- what a reader of things must be -/
structure PtOk (pt : List Nat → Option (Thg × List Nat)) (m : Nat) : Prop where
  s : ∀ l t r, pt l = some (t, r) → l = wr t ++ r ∧ okT t = true ∧ dep t ≤ m
theorem parts_sound {pt : List Nat → Option (Thg × List Nat)} {m : Nat} (hp : PtOk pt m) : ∀ (f : Nat) (l : List Nat) (ts : List Thg) (r : List Nat), pParts pt f l = some (ts, r) → l = wrs ts ++ 41 :: r ∧ okTs ts = true ∧ deps ts ≤ m
  | 0, _, _, _, h => by cases h
  | f + 1, l, ts, r, h => by
    unfold pParts at h
    split at h
    · cases h
    · rename_i t r1 e1
      obtain ⟨a1, a2, a3⟩ := hp.s l t r1 e1
      split at h
      · rename_i r2
        cases e : pParts pt f r2 with
        | none => rw [e] at h; cases h
        | some q =>
          rw [e] at h
          cases h
          obtain ⟨ts', r'⟩ := q
          obtain ⟨b1, b2, b3⟩ := parts_sound hp f r2 ts' r' e
          have ne := parts_pos f r2 ts' r' e
          refine ⟨?_, ?_, ?_⟩
          · show l = wrs (t :: ts') ++ 41 :: r'
            cases ts' with
            | nil => exact absurd rfl ne
            | cons t' rest =>
              rw [a1, b1, wrs_cons2]
          · show okTs (t :: ts') = true
            unfold okTs
            rw [a2, b2]
            rfl
          · show deps (t :: ts') ≤ m
            unfold deps
            omega
      · cases h
        refine ⟨?_, ?_, ?_⟩
        · rw [a1, wrs_cons, wrm_nil, List.append_nil]
        · unfold okTs okTs
          rw [a2]
          rfl
        · unfold deps deps
          omega
      · cases h
theorem num_sound {l : List Nat} {t : Thg} {r : List Nat} (h : pNum l = some (t, r)) : l = wr t ++ r ∧ okT t = true ∧ dep t = 0 := by
  have e := span_eq l
  have dg := span_dg l
  unfold pNum at h
  split at h
  · rename_i r2 er
    cases ei : intL (spanD l).1 2 with
    | none => rw [ei] at h; cases h
    | some n =>
      rw [ei] at h
      simp only [] at h
      split at h
      · rename_i hn
        cases h
        obtain ⟨i1, i2⟩ := int_ok dg ei
        have hl : (r2.take n).length = n := by rw [List.length_take]; omega
        refine ⟨?_, ?_, ?_⟩
        · rw [wr_txt, hl, i1, List.append_assoc, List.cons_append, List.take_append_drop, ← er]
          exact e
        · unfold okT
          rw [hl]
          have : n < 10 ^ 2 := by
            have := TL.numL_val n
            rcases Nat.lt_or_ge n 100 with z | z
            · exact z
            · exfalso
              have h3 : 3 ≤ (numL n).length := by
                rw [TL.numL_step (by omega), List.length_append, TL.numL_step (n := n / 10) (by omega), List.length_append]
                have : 0 < (numL (n / 10 / 10)).length := by
                  obtain ⟨c, l, e, _⟩ := num_cons (n / 10 / 10)
                  rw [e]; simp
                simp
                omega
              rw [i1] at h3
              omega
          exact decide_eq_true (by omega)
        · unfold dep; rfl
      · cases h
  · cases ei : intL (spanD l).1 200 with
    | none => rw [ei] at h; cases h
    | some n =>
      rw [ei] at h
      cases h
      obtain ⟨i1, i2⟩ := int_ok dg ei
      refine ⟨?_, ?_, ?_⟩
      · rw [wr_int]
        unfold numZ
        rw [if_neg (by omega), Int.natAbs_natCast, i1]
        exact e
      · unfold okT
        rw [Int.natAbs_natCast, i1]
        exact decide_eq_true i2
      · unfold dep; rfl
theorem read_sound : ∀ (j : Nat), (∀ d l t r, d ≤ 40 → pThing j d l = some (t, r) → l = wr t ++ r ∧ okT t = true ∧ d + dep t ≤ 40) ∧ (∀ d l t r, pTuple j d l = some (t, r) → 40 :: l = wr t ++ r ∧ okT t = true ∧ d ≤ 40 ∧ d + dep t ≤ 41)
  | 0 => ⟨fun _ _ _ _ _ h => by simp [pThing] at h, fun _ _ _ _ h => by simp [pTuple] at h⟩
  | j + 1 => by
    obtain ⟨ih1, ih2⟩ := read_sound j
    constructor
    · intro d l t r hd h
      rw [pThing_succ] at h
      split at h
      · rename_i r0
        obtain ⟨a1, a2, a3, a4⟩ := ih2 _ _ _ _ h
        exact ⟨a1, a2, by omega⟩
      · rename_i r0
        split at h
        · cases h
        · rename_i h48
          have e := span_eq r0
          have dg := span_dg r0
          cases ei : intL (spanD r0).1 200 with
          | none => rw [ei] at h; cases h
          | some n =>
            rw [ei] at h
            cases h
            obtain ⟨i1, i2⟩ := int_ok dg ei
            have n0 : n ≠ 0 := by
              intro z
              subst z
              rw [TL.numL_lt (by decide)] at i1
              exact h48 i1.symm
            refine ⟨?_, ?_, ?_⟩
            · rw [wr_int]
              unfold numZ
              rw [if_pos (by omega), Int.natAbs_neg, Int.natAbs_natCast, i1, List.cons_append]
              rw [← e]
            · unfold okT
              rw [Int.natAbs_neg, Int.natAbs_natCast, i1]
              exact decide_eq_true i2
            · unfold dep; omega
      · obtain ⟨a1, a2, a3⟩ := num_sound h
        exact ⟨a1, a2, by omega⟩
    · intro d l t r h
      rw [pTuple_succ] at h
      split at h
      · cases h
      · rename_i hd
        split at h
        · cases h
          refine ⟨?_, by unfold okT okTs; rfl, by omega, ?_⟩
          · rw [wr_tup, wrs_nil]; rfl
          · unfold dep deps; omega
        · cases e : pParts (pThing j d) (l.length + 1) l with
          | none => rw [e] at h; cases h
          | some q =>
            rw [e] at h
            cases h
            obtain ⟨b1, b2, b3⟩ := parts_sound (m := 40 - d) ⟨fun l t r q => by
              obtain ⟨c1, c2, c3⟩ := ih1 d l t r (by omega) q
              exact ⟨c1, c2, by omega⟩⟩ _ _ _ _ e
            refine ⟨?_, by unfold okT; exact b2, by omega, ?_⟩
            · show 40 :: l = wr (.tup q.1) ++ q.2
              rw [wr_tup, List.cons_append, List.append_assoc]
              exact congrArg (List.cons 40) b1
            · show d + dep (.tup q.1) ≤ 41
              unfold dep; omega
/-! ### back -/
/-- what may stand behind a thing: no digit, no colon -/
def stop (r : List Nat) : Prop := ∀ c r', r = c :: r' → isDg c = false ∧ c ≠ 58
theorem stop.no {r : List Nat} (h : stop r) : noDg r := fun c r' e => (h c r' e).1
theorem num_back {n : Nat} {r : List Nat} (hn : (numL n).length ≤ 200) (hr : stop r) : pNum (numL n ++ r) = some (.int n, r) := by
  have hs := span_app (numL n) r (num_dg n) hr.no
  unfold pNum
  rw [hs]
  simp only []
  split
  · rename_i r2
    exact absurd rfl (hr 58 _ rfl).2
  · rw [int_num hn]
    rfl
theorem txt_back {l r : List Nat} (hl : l.length ≤ 99) : pNum (numL l.length ++ 58 :: (l ++ r)) = some (.txt l, r) := by
  have hs := span_app (numL l.length) (58 :: (l ++ r)) (num_dg _) (fun c r' e => by cases e; decide)
  have h2 : (numL l.length).length ≤ 2 := TL.numL_len (by decide) (by omega)
  unfold pNum
  rw [hs]
  simp only [int_num h2]
  rw [if_pos (by rw [List.length_append]; omega), List.take_left', List.drop_left']
  · rfl
  · rfl
theorem thing_num {j d : Nat} {c : Nat} {l : List Nat} (hc : isDg c = true) : pThing (j + 1) d (c :: l) = pNum (c :: l) := by
  have h : c ≠ 40 ∧ c ≠ 45 := by
    unfold isDg at hc
    simp at hc
    omega
  rw [pThing_succ]
  split
  · rename_i q; injection q with q _; exact absurd q h.1
  · rename_i q; injection q with q _; exact absurd q h.2
  · rfl
theorem stop_comma (l : List Nat) : stop (44 :: l) := fun c r' e => by cases e; exact ⟨by decide, by decide⟩
theorem stop_close (l : List Nat) : stop (41 :: l) := fun c r' e => by cases e; exact ⟨by decide, by decide⟩
theorem parts_back {pt : List Nat → Option (Thg × List Nat)} : ∀ (ts : List Thg) (f : Nat) (r : List Nat), ts ≠ [] → (wrs ts).length < f → (∀ t ∈ ts, ∀ r, stop r → pt (wr t ++ r) = some (t, r)) → pParts pt f (wrs ts ++ 41 :: r) = some (ts, r)
  | [], _, _, h, _, _ => absurd rfl h
  | t :: ts, 0, _, _, h, _ => absurd h (Nat.not_lt_zero _)
  | [t], f + 1, r, _, _, hp => by
    rw [wrs_cons, wrm_nil, List.append_nil]
    unfold pParts
    rw [hp t List.mem_cons_self _ (stop_close r)]
    rfl
  | t :: t2 :: ts, f + 1, r, _, hf, hp => by
    have e : wrs (t :: t2 :: ts) ++ 41 :: r = wr t ++ (44 :: (wrs (t2 :: ts) ++ 41 :: r)) := wrs_cons2 t t2 ts _
    have hl : (wrs (t2 :: ts)).length < f := by
      have : (wrs (t :: t2 :: ts)).length = (wr t).length + ((wrs (t2 :: ts)).length + 1) := by
        rw [wrs_cons t, wrm_cons, wrs_cons t2]
        simp only [List.length_append, List.length_cons]
      have := wr_pos t
      omega
    have ih := parts_back (t2 :: ts) f r (by simp) hl fun x hx => hp x (List.mem_cons_of_mem _ hx)
    rw [e]
    unfold pParts
    rw [hp t List.mem_cons_self _ (stop_comma _)]
    simp only []
    rw [ih]
    rfl
theorem okTs_mem : ∀ {ts : List Thg}, okTs ts = true → ∀ t ∈ ts, okT t = true
  | [], _, t, h => nomatch h
  | x :: ts, h, t, hm => by
    unfold okTs at h
    rw [Bool.and_eq_true] at h
    rcases List.mem_cons.mp hm with rfl | hm
    · exact h.1
    · exact okTs_mem h.2 t hm
theorem deps_mem : ∀ {ts : List Thg} (t : Thg), t ∈ ts → dep t ≤ deps ts
  | [], t, h => nomatch h
  | x :: ts, t, hm => by
    unfold deps
    rcases List.mem_cons.mp hm with rfl | hm
    · omega
    · have := deps_mem t hm
      omega
theorem read_back : ∀ (j : Nat) (t : Thg) (d : Nat) (r : List Nat), 2 * dep t < j → d + dep t ≤ 40 → okT t = true → stop r → pThing j d (wr t ++ r) = some (t, r)
  | 0, _, _, _, h, _, _, _ => absurd h (Nat.not_lt_zero _)
  | j + 1, .int i, d, r, hj, hd, ok, hr => by
    unfold okT at ok
    have ok := of_decide_eq_true ok
    rw [wr_int]
    unfold numZ
    by_cases hi : i < 0
    · rw [if_pos hi, List.cons_append, pThing_succ]
      simp only []
      rw [span_app _ _ (num_dg _) hr.no]
      simp only []
      have n48 : ¬ numL i.natAbs = [48] := fun e => by
        have := congrArg NumText.digitsVal e
        rw [TL.numL_val] at this
        have e0 : NumText.digitsVal [48] = 0 := rfl
        rw [e0] at this
        omega
      rw [if_neg n48, int_num ok]
      show some (Thg.int (-(i.natAbs : Int)), r) = _
      rw [show -(i.natAbs : Int) = i by omega]
    · rw [if_neg hi]
      obtain ⟨c, l, e, hc⟩ := num_cons i.natAbs
      have := num_back ok hr
      rw [e, List.cons_append] at this
      rw [e, List.cons_append, thing_num hc, this]
      rw [show (i.natAbs : Int) = i by omega]
  | j + 1, .txt l, d, r, hj, hd, ok, hr => by
    unfold okT at ok
    have ok := of_decide_eq_true ok
    have := txt_back (r := r) ok
    rw [wr_txt, List.append_assoc, List.cons_append]
    obtain ⟨c, l2, e, hc⟩ := num_cons l.length
    rw [e, List.cons_append] at this ⊢
    rw [thing_num hc, this]
  | 1, .tup ts, d, r, hj, hd, ok, hr => by
    unfold dep at hj
    omega
  | j + 2, .tup ts, d, r, hj, hd, ok, hr => by
    unfold dep at hj hd
    unfold okT at ok
    rw [wr_tup, List.cons_append, pThing_succ]
    simp only []
    rw [pTuple_succ, if_neg (by omega), List.append_assoc]
    cases ts with
    | nil =>
      rw [wrs_nil]
      rfl
    | cons t0 ts =>
      have pb := parts_back (pt := pThing j (d + 1)) (t0 :: ts) ((wrs (t0 :: ts) ++ ([41] ++ r)).length + 1) r (by simp) (by rw [List.length_append]; omega) (fun t ht r' hr' => by
        have h1 := deps_mem t ht
        exact read_back j t (d + 1) r' (by omega) (by omega) (okTs_mem ok t ht) hr')
      have e : wrs (t0 :: ts) ++ ([41] ++ r) = wrs (t0 :: ts) ++ 41 :: r := rfl
      rw [e] at pb ⊢
      have hh : ∀ r', wrs (t0 :: ts) ++ 41 :: r ≠ 41 :: r' := fun r' z => by
        rw [wrs_cons, List.append_assoc] at z
        cases t0 with
        | int i =>
          rw [wr_int] at z
          unfold numZ at z
          split at z
          · rw [List.cons_append] at z
            injection z with z _
            cases z
          · obtain ⟨c, l, e, hc⟩ := num_cons i.natAbs
            rw [e, List.cons_append] at z
            injection z with z _
            subst z
            cases hc
        | txt l0 =>
          rw [wr_txt] at z
          obtain ⟨c, l, e, hc⟩ := num_cons l0.length
          rw [e, List.append_assoc, List.cons_append] at z
          injection z with z _
          subst z
          cases hc
        | tup ts0 =>
          rw [wr_tup, List.cons_append] at z
          injection z with z _
          cases z
      split
      · rename_i r' q
        exact absurd q (hh r')
      · rw [pb]
        rfl
end TX

/-! TX3: texts as lists of signs: what runs. -/
namespace TX
open PySem PySem.Spec PyProof.Rows L2 PL
open TL (numL tl)
def tx (l : List Nat) : Str := ⟨l.toArray⟩
theorem tl_tx (l : List Nat) : tl (tx l) = l := rfl
theorem tx_tl (x : Str) : tx (tl x) = x := TL.mk_tl x
theorem tx_len (l : List Nat) : (tx l).length = l.length := TL.len_tl (tx l)
theorem tx_app (a b : List Nat) : tx a ++ tx b = tx (a ++ b) := TL.ext_tl (by rw [TL.tl_append]; rfl)
theorem tx_inj {a b : List Nat} (h : tx a = tx b) : a = b := congrArg tl h
theorem tx_ofString (x : String) : Str.ofString x = tx (x.toList.map Char.toNat) := TL.ext_tl (TL.tl_ofString x)
theorem numS_tx (i : Int) : numS i = tx (numZ i) := by
  refine TL.ext_tl ?_
  unfold numS numZ
  cases i with
  | ofNat n =>
    rw [if_neg (show ¬ (Int.ofNat n < 0) from Int.not_lt.mpr (Int.natCast_nonneg n))]
    exact TL.tl_num n
  | negSucc n =>
    rw [if_pos (show Int.negSucc n < 0 from Int.negSucc_lt_zero n), TL.tl_ofString]
    show (toString (Int.negSucc n)).toList.map Char.toNat = 45 :: numL (Int.negSucc n).natAbs
    have e : toString (Int.negSucc n) = "-" ++ toString (n + 1) := rfl
    have e2 : (Int.negSucc n).natAbs = n + 1 := rfl
    rw [e, e2, String.toList_append, List.map_append]
    have e3 := TL.tl_num (n + 1)
    rw [TL.tl_ofString] at e3
    rw [show (toString (n + 1)).toList = (toString ((n + 1 : Nat) : Int)).toList from rfl, e3]
    rfl
section
variable {s : S}
theorem sl_tx {l : List Nat} {a b : Nat} (h : l.length ≤ 100000) : slD (.str (tx l)) (some (a : Int)) (some (b : Int)) s = .ok (.str (tx ((l.drop a).take (b - a)))) s := by
  show (if (tx l).length ≤ 100000 then (Pure.pure (D.str (cutS (tx l) (some (a : Int)) (some (b : Int)))) : M D) else stuck) s = _
  rw [tx_len, if_pos h]
  have e : cutS (tx l) (some (a : Int)) (some (b : Int)) = tx ((l.drop a).take (b - a)) := by
    unfold cutS
    rw [tx_len, HT.sIx_nat, HT.sIx_nat]
    show tx ((l.drop (min a l.length)).take (min b l.length - min a l.length)) = _
    congr 1
    rcases Nat.le_total a l.length with h1 | h1
    · rw [Nat.min_eq_left h1]
      rcases Nat.le_total b l.length with h2 | h2
      · rw [Nat.min_eq_left h2]
      · rw [Nat.min_eq_right h2, List.take_of_length_le, List.take_of_length_le]
        · rw [List.length_drop]; omega
        · rw [List.length_drop]; omega
    · rw [Nat.min_eq_right h1, List.drop_of_length_le (Nat.le_refl _), List.drop_of_length_le h1, List.take_nil, List.take_nil]
  rw [e]
  rfl
theorem len_tx {l : List Nat} (h : l.length ≤ 100000) : lenD (.str (tx l)) s = .ok (.int l.length) s := by
  show (if (tx l).length ≤ 100000 then (Pure.pure (D.int (tx l).length) : M D) else stuck) s = _
  rw [tx_len, if_pos h]
  rfl
theorem add_tx {a b : List Nat} (h : a.length + b.length ≤ 100000) : addD (.str (tx a)) (.str (tx b)) s = .ok (.str (tx (a ++ b))) s := by
  show (if (tx a).length + (tx b).length ≤ 100000 then (Pure.pure (D.str (tx a ++ tx b)) : M D) else stuck) s = _
  rw [tx_len, tx_len, if_pos h, tx_app]
  rfl
theorem eq_tx {a b : List Nat} : eqD (.str (tx a)) (.str (tx b)) s = .ok (.bl (decide (a = b))) s := by
  show R.ok (D.bl (decide (tx a = tx b))) s = _
  have : decide (tx a = tx b) = decide (a = b) := by
    by_cases h : a = b
    · subst h
      rw [decide_eq_true rfl, decide_eq_true rfl]
    · rw [decide_eq_false h, decide_eq_false fun e => h (tx_inj e)]
  rw [this]
theorem ne_tx {a b : List Nat} : neD (.str (tx a)) (.str (tx b)) s = .ok (.bl (!decide (a = b))) s := by
  show (eqD (.str (tx a)) (.str (tx b)) >>= _) s = _
  rw [bind_run, eq_tx]
  rfl
theorem le_tx {a b : List Nat} : leD (.str (tx a)) (.str (tx b)) s = .ok (.bl (!decide (b < a))) s := rfl
theorem lt1 (a c : Nat) : ([a] < [c]) ↔ a < c := by
  constructor
  · intro h
    cases h with
    | rel h => exact h
    | cons h => cases h
  · exact fun h => .rel h
theorem ix_tx {l : List Nat} {k : Nat} {c : Nat} (h : l.length ≤ 100000) (hc : l[k]? = some c) : ixD (.str (tx l)) (.int (k : Int)) s = .ok (.str (tx [c])) s := by
  show (if (tx l).length ≤ 100000 then (match atI l (k : Int) with
      | some c => (Pure.pure (D.str ⟨#[c]⟩) : M D)
      | none => stuck) else stuck) s = _
  have e : atI l (k : Int) = some c := L2.atI_nat hc
  rw [tx_len, if_pos h]
  simp only [e]
  rfl
theorem str_num {i : Int} (h : i.natAbs.log2 < 1920) : strID (.int i) s = .ok (.str (tx (numZ i))) s := by
  show (if i.natAbs.log2 < 1920 then (Pure.pure (D.str (numS i)) : M D) else stuck) s = _
  rw [if_pos h, numS_tx]
  rfl
theorem fmt_num {i : Int} (h : i.natAbs.log2 < 1920) : fmtD (.int i) s = .ok (.str (tx (numZ i))) s := by
  show (if i.natAbs.log2 < 1920 then (Pure.pure (D.str (numS i)) : M D) else stuck) s = _
  rw [if_pos h, numS_tx]
  rfl
theorem fmt_tx {l : List Nat} (h : l.length ≤ 100000) : fmtD (.str (tx l)) s = .ok (.str (tx l)) s := by
  show (if (tx l).length ≤ 100000 then (Pure.pure (D.str (tx l)) : M D) else stuck) s = _
  rw [tx_len, if_pos h]
  rfl
theorem all_dg {l : List Nat} (h : ∀ c ∈ l, isDg c = true) : NumText.AllDigits l := fun c hc => by
  have := h c hc
  unfold isDg at this
  simp at this
  exact this
theorem int_tx {l : List Nat} (h : ∀ c ∈ l, isDg c = true) (h1 : 1 ≤ l.length) (h2 : l.length ≤ 640) : intSD (.str (tx l)) s = .ok (.int (NumText.digitsVal l : Nat)) s := by
  have e := PySem.intText_digits (x := tx l) (all_dg h) (by
    intro z
    have z2 : l = [] := z
    rw [z2] at h1
    exact absurd h1 (by decide)) (by rw [tx_len]; omega)
  show (match PySem.intText? (tx l) with
    | some n => if (tx l).length ≤ 640 then (Pure.pure (D.int n) : M D) else stuck
    | none => stuck) s = _
  rw [e]
  simp only []
  rw [tx_len, if_pos h2]
  rfl
theorem zf_tx {n : Nat} (h : n < 10 ^ 64) : zfD (.str (tx (numL n))) (.int 64) s = .ok (.str (tx (padL 64 n))) s := by
  show (if PadOk 64 = true then (Pure.pure (D.str (Txt.zfill (tx (numL n)) 64)) : M D) else stuck) s = _
  rw [if_pos (by decide +kernel)]
  have hl : (numL n).length ≤ 64 := TL.numL_len (by decide) h
  have e : Txt.zfill (tx (numL n)) 64 = tx (padL 64 n) := by
    rw [pad_num 64 n (by decide) h]
    unfold Txt.zfill
    by_cases h64 : (64 : Int) ≤ ((tx (numL n)).length : Int)
    · rw [if_pos h64]
      rw [tx_len] at h64
      have : 64 - (numL n).length = 0 := by omega
      rw [this]
      rfl
    · rw [if_neg h64, tx_len]
      have hp : ∀ m : Nat, zfilled (tx (numL n)) m = Builtin.Str.padded (tx (numL n)) m 0 48 := fun m => by
        obtain ⟨c, l, e, hc⟩ := num_cons n
        rw [e]
        unfold zfilled
        have e0 : (tx (c :: l)).cps[0]? = some c := by
          show (List.toArray (c :: l))[0]? = _
          simp
        rw [e0]
        unfold isDg at hc
        simp at hc
        split
        · rename_i q
          simp at q
          omega
        · rename_i q
          simp at q
          omega
        · rfl
      rw [hp]
      refine TL.ext_tl ?_
      unfold Builtin.Str.padded
      show (Array.replicate ((64 : Int).toNat - (numL n).length) 48 ++ (numL n).toArray ++ Array.replicate 0 48).toList = List.replicate (64 - (numL n).length) 48 ++ numL n
      simp
  rw [e]
  rfl
theorem zf_run {mo ma : PL.Env → M D} {env : PL.Env} : zfM mo ma env s = (mo env s).on fun x s1 => ((match x with
  | .str _ => (Pure.pure () : M Unit)
  | _ => stuck) s1).on fun _ s2 => (ma env s2).on fun y s3 => zfD x y s3 := by
  show (mo env >>= fun x => (match x with
  | .str _ => (Pure.pure () : M Unit)
  | _ => stuck) >>= fun _ => ma env >>= fun y => zfD x y) s = _
  simp only [bind_on]
theorem divmod_run {i j : Int} (h : 0 < j) (h2 : j.natAbs.log2 < 9000) : divmodL [.int i, .int j] s = .ok (.tup [.int (i / j), .int (i % j)]) s := by
  show (if 0 < j ∧ Builtin.divisionGoesByPylong i j = false then (Pure.pure (D.tup [.int (i / j), .int (i % j)]) : M D) else stuck) s = _
  rw [if_pos ⟨h, PyProof.noPylong_of_log2 h2⟩]
  rfl
/-! ### while, a step at a time -/
theorem while_go {c : PL.Env → M Bool} {b : PL.Env → M Out} {env env' : PL.Env} {s s1 s' s2 : S} {o : Out} (h1 : c env s = .ok true s1) (h2 : b env s1 = .ok (.nx env') s') (h3 : whileS c b env' s' = .ok o s2) : whileS c b env s = .ok o s2 := by
  unfold whileS at h3
  split at h3
  · rename_i hk
    have e : whileN c b (Classical.choose hk + 1) env s = .ok o s2 := by
      unfold whileN
      rw [bind_run, h1]
      simp only [if_true]
      rw [bind_run, h2]
      exact h3
    exact (whileS_eq (by rw [e]; intro z; cases z)).trans e
  · cases h3
theorem while_end {c : PL.Env → M Bool} {b : PL.Env → M Out} {env : PL.Env} {s s1 : S} (h1 : c env s = .ok false s1) : whileS c b env s = .ok (.nx env) s1 := by
  have e : whileN c b 1 env s = .ok (.nx env) s1 := by
    unfold whileN
    rw [bind_run, h1]
    rfl
  exact (whileS_eq (by rw [e]; intro z; cases z)).trans e
/-! ### join -/
theorem tx_join (a : List Nat) (ls : List (List Nat)) : Txt.join (tx a) (ls.map tx) = tx (TL.joinL a ls) := by
  rw [TL.join_eq]
  refine TL.ext_tl ?_
  rw [TL.tl_join, List.map_map]
  have e : ls.map (tl ∘ tx) = ls := by
    have : (tl ∘ tx) = id := funext fun l => rfl
    rw [this, List.map_id]
  rw [e]
  rfl
theorem dStrs_tx : ∀ ys : List (List Nat), dStrs (ys.map fun l => D.str (tx l)) = some (ys.map tx)
  | [] => rfl
  | y :: ys => by
    have := dStrs_tx ys
    rw [List.map_cons]
    unfold dStrs at this ⊢
    simp only [mapO, this]
    rfl
theorem sum_tx (ys : List (List Nat)) : ((ys.map tx).map (·.length)).sum = (ys.map (·.length)).sum := by
  rw [List.map_map]
  congr 1
theorem joinS_tx {a : List Nat} {ys : List (List Nat)} (h : (ys.map (·.length)).sum + ys.length * a.length ≤ 16777216) : joinS (tx a) (ys.map fun l => D.str (tx l)) s = .ok (.str (tx (TL.joinL a ys))) s := by
  unfold joinS
  rw [dStrs_tx]
  simp only []
  rw [sum_tx, List.length_map, tx_len, if_pos h, tx_join]
  rfl
theorem join_run {mo : PL.Env → M D} {ma : PL.Env → M (List D)} {env : PL.Env} {s1 s2 : S} {a : List Nat} {ys : List (List Nat)} (h1 : mo env s = .ok (.str (tx a)) s1) (h2 : ma env s1 = .ok [.vls (ys.map fun l => D.str (tx l))] s2) (h : (ys.map (·.length)).sum + ys.length * a.length ≤ 16777216) : joinM mo ma env s = .ok (.str (tx (TL.joinL a ys))) s2 := by
  unfold joinM
  rw [bind_on, h1, on_ok]
  simp only []
  rw [bind_on, h2, on_ok]
  show joinS (tx a) (ys.map fun l => D.str (tx l)) s2 = _
  exact joinS_tx h
theorem join_nil : ∀ ys : List (List Nat), TL.joinL [] ys = ys.flatten
  | [] => rfl
  | [p] => by
    show p = [p].flatten
    simp
  | p :: q :: r => by
    show p ++ ([] ++ TL.joinL [] (q :: r)) = _
    rw [List.nil_append, join_nil (q :: r)]
    simp only [List.flatten_cons]
theorem join_wrs : ∀ ts : List Thg, TL.joinL [44] (ts.map wr) = wrs ts
  | [] => by rw [wrs_nil]; rfl
  | [t] => by rw [wrs_cons, wrm_nil, List.append_nil]; rfl
  | t :: t2 :: ts => by
    have e := wrs_cons2 t t2 ts []
    rw [List.append_nil, List.append_nil] at e
    rw [e, ← join_wrs (t2 :: ts)]
    rfl
theorem wrs_len : ∀ ts : List Thg, ((ts.map wr).map (·.length)).sum ≤ (wrs ts).length ∧ ts.length ≤ (wrs ts).length
  | [] => ⟨Nat.zero_le _, Nat.zero_le _⟩
  | [t] => by
    have := wr_pos t
    rw [wrs_cons, wrm_nil, List.append_nil]
    refine ⟨?_, ?_⟩
    · show (wr t).length + 0 ≤ _
      omega
    · show 1 ≤ _
      omega
  | t :: t2 :: ts => by
    obtain ⟨h1, h2⟩ := wrs_len (t2 :: ts)
    have e := wrs_cons2 t t2 ts []
    rw [List.append_nil, List.append_nil] at e
    rw [e, List.length_append, List.length_cons, List.map_cons, List.map_cons, List.sum_cons, List.length_cons]
    omega
/-! ### things -/
mutual
def tD : Thg → D
  | .int i => .int i
  | .txt l => .str (tx l)
  | .tup ts => .tup (tDs ts)
def tDs : List Thg → List D
  | [] => []
  | t :: ts => tD t :: tDs ts
end
theorem tDs_map : ∀ ts : List Thg, tDs ts = ts.map tD
  | [] => by rw [tDs]; rfl
  | t :: ts => by rw [tDs, tDs_map ts]; rfl
theorem tD_tup (ts : List Thg) : tD (.tup ts) = .tup (ts.map tD) := by rw [tD, tDs_map]
theorem tD_int (i : Int) : tD (.int i) = .int i := by rw [tD]
theorem tD_txt (l : List Nat) : tD (.txt l) = .str (tx l) := by rw [tD]
mutual
theorem tD_cl (n : Nat) : ∀ t : Thg, Cl n (tD t)
  | .int i => by rw [tD_int]; exact .int _
  | .txt l => by rw [tD_txt]; exact .str _
  | .tup ts => by rw [tD]; exact .tup (tDs_cl n ts)
theorem tDs_cl (n : Nat) : ∀ ts : List Thg, ClL n (tDs ts)
  | [] => by rw [tDs]; exact .nil
  | t :: ts => by rw [tDs]; exact .cons (tD_cl n t) (tDs_cl n ts)
end
end
end TX

namespace LAW
open PySem PySem.Spec PyProof.Rows L2 PL
local macro_rules | `(tactic| simp! only [$ls,*]) => `(tactic| simp only [Nat.reduceLeDiff, lstK_le, fnM_run, fnF_run, cut_eq, cut_eqA, cut_lst, cl_non, cl_bl, cl_int, cl_str, cl_tup, cl_vls, cl_ptr, clL_nil, clL_cons, clL_int, clL_pD, cl_pD, lenD_vls, lenD_flst, ixD_vls, listF_tup, listF_vls, listF_flst, tupleD_vls, tupleD_tup, srcD_vls, lstF_run, slM_run, noP_run, inPt_run, inK_int, slD_tup, slD_vls, revD_tup, revD_vls, cut_but_last, cut_from1, cut_to1, decide_true, decide_false, chK_t, chK_f, Int.cast_ofNat_Int, Int.reduceEq, Int.reduceLT, Int.reduceLE, and_self, eq_self, startE, seqS_run, setS_run, dropS_run, retS_run, nxS_run, ifS_run, asgS_run, parS_run, forS_run, gNm_run, gNilM_run, gConsM_run, gTup2, gTup3, gSubM_run, seqK_nx, seqK_rt, seqK_bk, seqK_ct, outM_rt, outM_nx, lenM0, lenM1, lenM2, lenM3, lenM4, lenM5, callM_run, consA_run, nilA_run, tupM_run, lstM_run, tupK_0, tupK_le, tupK_1, tupK_2, tupK_3, tupK_4, binM_run, unM_run, tB_run, bB_bl, chainM_run, chK_t, chK_f, truM_run, andM_run, orM_run, notM_run, andT_run, orT_run, notT_run, ifM_run, cM_run, varM_run, varK_ok, yesT_run, addD_int, subD_int, negD_int, ltD_int, leD_int, gtD_int, geD_int, eqD_int, eqD_bl, eqD_str, neD_int, neD_bl, isnD_non, isnD_int, isnD_bl, isnD_str, isnD_tup, isnD_ptr, isbD_bl, notbD_bl, truD_bl, and_bl, or_bl, and_tt, or_tt, fun1_run, fun2_run, intD_int, intD_bl, absD_int, gcdD_int, lenD_tup, ixS_int, ixD_tup, ixD_flst, atK_some, at0, at1, at2, at3, on_ok, srcM_run, srcA_run, srcD_str, srcD_tup, srcD_flst, guard_none, List.map_cons, List.map_nil, List.length_cons, List.length_nil, Nat.reduceAdd, Nat.reduceSub, Nat.sub_self, List.replicate_succ, List.replicate_zero, List.append_nil, List.nil_append, List.cons_append, List.getElem?_cons_zero, List.getElem?_cons_succ, List.set_cons_zero, List.set_cons_succ, if_true, Bool.not_true, Bool.not_false, Bool.false_eq_true, if_false, Bool.true_and, Bool.false_and, Bool.and_true, Bool.and_false, Bool.true_or, Bool.false_or, Bool.or_true, Bool.or_false, $ls,*])
@[reducible] noncomputable def B__law_pot_1 : PL.Env → M Out :=
    (setS 1 (binM modD (callM (fun1 intD) (consA (binM addD (binM mulD (varM 1) (cM (.int 31))) (varM 2)) nilA)) (cM (.int 2147483647))))
noncomputable def m__law_pot : PL.Env → M Out :=
    (seqS (setS 1 (cM (.int 1)))
    (seqS (forS (srcM (varM 0)) (gNm 2) B__law_pot_1)
    (retS (lstM (consA (callM (fun1 listF) (consA (varM 0) nilA)) (consA (cM (.int 0)) (consA (cM (.int 0)) (consA (varM 1) nilA))))))))
noncomputable def F__law_pot : List D → M D := fnM 3 m__law_pot
noncomputable def m__law_next : PL.Env → M Out :=
    (seqS (ifS (andT (tB (binM eqD (binM ixD (varM 0) (cM (.int 2))) (cM (.int 0)))) (tB (binM ltD (binM ixD (varM 0) (cM (.int 1))) (callM (fun1 lenD) (consA (binM ixD (varM 0) (cM (.int 0))) nilA))))) (seqS (setS 3 (callM (fun1 absD) (consA (callM (fun1 intD) (consA (binM ixD (binM ixD (varM 0) (cM (.int 0))) (binM ixD (varM 0) (cM (.int 1)))) nilA)) nilA)))
    (seqS (asgS (binM addD (binM ixD (varM 0) (cM (.int 1))) (cM (.int 1))) (gSubM (varM 0) (cM (.int 1)) setLD))
    (seqS (ifS (tB (binM ltD (varM 3) (binM powD (cM (.int 10)) (cM (.int 18))))) (retS (binM modD (callM (fun1 intD) (consA (varM 3) nilA)) (varM 1))) nxS)
    (asgS (varM 3) (gSubM (varM 0) (cM (.int 2)) setLD))))) nxS)
    (seqS (ifS (tB (binM gtD (binM ixD (varM 0) (cM (.int 2))) (cM (.int 0)))) (seqS (setS 4 (binM modD (callM (fun1 intD) (consA (binM ixD (varM 0) (cM (.int 2))) nilA)) (varM 1)))
    (seqS (asgS (binM fdivD (binM ixD (varM 0) (cM (.int 2))) (varM 1)) (gSubM (varM 0) (cM (.int 2)) setLD))
    (retS (varM 4)))) nxS)
    (seqS (asgS (binM modD (callM (fun1 intD) (consA (binM addD (binM mulD (binM ixD (varM 0) (cM (.int 3))) (cM (.int 48271))) (cM (.int 12345))) nilA)) (cM (.int 2147483647))) (gSubM (varM 0) (cM (.int 3)) setLD))
    (seqS (setS 2 (binM modD (callM (fun1 intD) (consA (binM addD (binM mulD (binM ixD (varM 0) (cM (.int 3))) (cM (.int 69621))) (binM fdivD (binM ixD (varM 0) (cM (.int 3))) (cM (.int 127)))) nilA)) (cM (.int 2147483629))))
    (retS (binM modD (callM (fun1 intD) (consA (varM 2) nilA)) (varM 1)))))))
noncomputable def F__law_next : List D → M D := fnF 5 m__law_next
noncomputable def m__law_thing (R_ : List D → M D) : PL.Env → M Out :=
    (seqS (setS 2 (callM (lenM 2 F__law_next) (consA (varM 0) (consA (cM (.int 6)) nilA))))
    (seqS (ifS (tB (binM eqD (varM 2) (cM (.int 0)))) (retS (binM subD (callM (lenM 2 F__law_next) (consA (varM 0) (consA (binM powD (cM (.int 10)) (cM (.int 60))) nilA))) (callM (lenM 2 F__law_next) (consA (varM 0) (consA (binM powD (cM (.int 10)) (cM (.int 60))) nilA))))) nxS)
    (seqS (ifS (orT (tB (binM eqD (varM 2) (cM (.int 1)))) (tB (binM eqD (varM 1) (cM (.int 0))))) (retS (binM subD (callM (lenM 2 F__law_next) (consA (varM 0) (consA (cM (.int 30)) nilA))) (cM (.int 9)))) nxS)
    (seqS (ifS (tB (binM ltD (varM 2) (cM (.int 4)))) (retS (joinM (cM (.str "")) (consA (compF (srcA rng1D (consA (callM (lenM 2 F__law_next) (consA (varM 0) (consA (cM (.int 13)) nilA))) nilA)) (gNm 3) yesT (binM ixD (cM (.str "0123:,()-a ")) (callM (lenM 2 F__law_next) (consA (varM 0) (consA (cM (.int 11)) nilA)))) [3]) nilA))) nxS)
    (retS (callM (fun1 tupleD) (consA (compF (srcA rng1D (consA (callM (lenM 2 F__law_next) (consA (varM 0) (consA (cM (.int 5)) nilA))) nilA)) (gNm 3) yesT (callM (lenM 2 R_) (consA (varM 0) (consA (binM subD (varM 1) (cM (.int 1))) nilA))) [3]) nilA)))))))
noncomputable def FF__law_thing : Nat → List D → M D
  | 0 => fun _ => stuck
  | j + 1 => fnF 4 (m__law_thing (FF__law_thing j))
@[reducible] noncomputable def T__digits_1 : PL.Env → M Bool :=
    (tB (binM geD (varM 0) (cM (.int 10000000000000000000000000000000000000000000000000000000000000000))))
@[reducible] noncomputable def B__digits_2 : PL.Env → M Out :=
    (seqS (asgS (callM divmodL (consA (varM 0) (consA (cM (.int 10000000000000000000000000000000000000000000000000000000000000000)) nilA))) (gTupM 2 (gConsM (gNm 0) (gConsM (gNm 2) gNilM))))
    (dropS (methM appendD (varM 1) (consA (zfM (callM (fun1 strID) (consA (varM 2) nilA)) (cM (.int 64))) nilA))))
noncomputable def m__digits : PL.Env → M Out :=
    (seqS (setS 1 (lstM nilA))
    (seqS (whileS T__digits_1 B__digits_2)
    (seqS (dropS (methM appendD (varM 1) (consA (callM (fun1 strID) (consA (varM 0) nilA)) nilA)))
    (retS (joinM (cM (.str "")) (consA (unM revD (varM 1)) nilA))))))
noncomputable def F__digits : List D → M D := fnF 3 m__digits
noncomputable def m_write (R_ : List D → M D) : PL.Env → M Out :=
    (seqS (ifS (truM (unM (isiD "tuple") (varM 0))) (retS (binM addD (binM addD (cM (.str "(")) (joinM (cM (.str ",")) (consA (compF (srcM (varM 0)) (gNm 1) yesT (callM (lenM 1 R_) (consA (varM 1) nilA)) [1]) nilA))) (cM (.str ")")))) nxS)
    (seqS (ifS (truM (unM (isiD "str") (varM 0))) (retS ((jConsM (unM fmtD (callM (fun1 lenD) (consA (varM 0) nilA))) (jConsM (cM (.str ":")) (jConsM (unM fmtD (varM 0)) jNilM))) Str.empty)) nxS)
    (seqS (ifS (tB (binM ltD (varM 0) (cM (.int 0)))) (retS (binM addD (cM (.str "-")) (callM (lenM 1 F__digits) (consA (unM negD (varM 0)) nilA)))) nxS)
    (retS (callM (lenM 1 F__digits) (consA (varM 0) nilA))))))
noncomputable def FF_write : Nat → List D → M D
  | 0 => fun _ => stuck
  | j + 1 => fnF 2 (m_write (FF_write j))
noncomputable def m__law_written (R_ : List D → M D) : PL.Env → M Out :=
    (seqS (ifS (truM (unM (isiD "int") (varM 0))) (retS (callM (fun1 strID) (consA (varM 0) nilA))) nxS)
    (seqS (ifS (truM (unM (isiD "str") (varM 0))) (retS (binM addD (binM addD (callM (fun1 strID) (consA (callM (fun1 lenD) (consA (varM 0) nilA)) nilA)) (cM (.str ":"))) (varM 0))) nxS)
    (retS (binM addD (binM addD (cM (.str "(")) (joinM (cM (.str ",")) (consA (compF (srcM (varM 0)) (gNm 1) yesT (callM (lenM 1 R_) (consA (varM 1) nilA)) [1]) nilA))) (cM (.str ")"))))))
noncomputable def FF__law_written : Nat → List D → M D
  | 0 => fun _ => stuck
  | j + 1 => fnF 2 (m__law_written (FF__law_written j))
@[reducible] noncomputable def T__digits_at_1 : PL.Env → M Bool :=
    (tB (chainM leD leD (cM (.str "0")) (slM (varM 0) (inPt (varM 2)) (inPt (binM addD (varM 2) (cM (.int 1))))) (cM (.str "9"))))
@[reducible] noncomputable def B__digits_at_2 : PL.Env → M Out :=
    (augS 2 (int2 fun i j => .int (i + j)) (cM (.int 1)))
noncomputable def m__digits_at : PL.Env → M Out :=
    (seqS (setS 2 (varM 1))
    (seqS (whileS T__digits_at_1 B__digits_at_2)
    (retS (tupM (consA (slM (varM 0) (inPt (varM 1)) (inPt (varM 2))) (consA (varM 2) nilA))))))
noncomputable def F__digits_at : List D → M D := fnF 3 m__digits_at
noncomputable def m__integer : PL.Env → M Out :=
    (seqS (ifS (notT (tB (chainM leD leD (cM (.int 1)) (callM (fun1 lenD) (consA (varM 0) nilA)) (varM 1)))) (fun _ => stuck) nxS)
    (seqS (ifS (andT (tB (binM eqD (binM ixD (varM 0) (cM (.int 0))) (cM (.str "0")))) (tB (binM neD (varM 0) (cM (.str "0"))))) (fun _ => stuck) nxS)
    (retS (callM (fun1 intSD) (consA (varM 0) nilA)))))
noncomputable def F__integer : List D → M D := fnF 2 m__integer
noncomputable def m__thing_at (R__thing_at R__tuple_at : List D → M D) : PL.Env → M Out :=
    (seqS (setS 3 (slM (varM 0) (inPt (varM 1)) (inPt (binM addD (varM 1) (cM (.int 1))))))
    (seqS (ifS (tB (binM eqD (varM 3) (cM (.str "(")))) (retS (callM (lenM 3 R__tuple_at) (consA (varM 0) (consA (binM addD (varM 1) (cM (.int 1))) (consA (binM addD (varM 2) (cM (.int 1))) nilA))))) nxS)
    (seqS (ifS (tB (binM eqD (varM 3) (cM (.str "-")))) (seqS (asgS (callM (lenM 2 F__digits_at) (consA (varM 0) (consA (binM addD (varM 1) (cM (.int 1))) nilA))) (gTupM 2 (gConsM (gNm 6) (gConsM (gNm 5) gNilM))))
    (seqS (ifS (tB (binM eqD (varM 6) (cM (.str "0")))) (fun _ => stuck) nxS)
    (retS (tupM (consA (unM negD (callM (lenM 2 F__integer) (consA (varM 6) (consA (cM (.int 200)) nilA)))) (consA (varM 5) nilA)))))) nxS)
    (seqS (asgS (callM (lenM 2 F__digits_at) (consA (varM 0) (consA (varM 1) nilA))) (gTupM 2 (gConsM (gNm 6) (gConsM (gNm 5) gNilM))))
    (seqS (ifS (tB (binM neD (slM (varM 0) (inPt (varM 5)) (inPt (binM addD (varM 5) (cM (.int 1))))) (cM (.str ":")))) (retS (tupM (consA (callM (lenM 2 F__integer) (consA (varM 6) (consA (cM (.int 200)) nilA))) (consA (varM 5) nilA)))) nxS)
    (seqS (setS 4 (binM addD (varM 5) (cM (.int 1))))
    (seqS (setS 5 (binM addD (varM 4) (callM (lenM 2 F__integer) (consA (varM 6) (consA (cM (.int 2)) nilA)))))
    (seqS (ifS (tB (binM gtD (varM 5) (callM (fun1 lenD) (consA (varM 0) nilA)))) (fun _ => stuck) nxS)
    (retS (tupM (consA (slM (varM 0) (inPt (varM 4)) (inPt (varM 5))) (consA (varM 5) nilA))))))))))))
noncomputable def m__tuple_at (R__thing_at R__tuple_at : List D → M D) : PL.Env → M Out :=
    (seqS (ifS (tB (binM gtD (varM 2) (cM (.int 40)))) (fun _ => stuck) nxS)
    (seqS (ifS (tB (binM eqD (slM (varM 0) (inPt (varM 1)) (inPt (binM addD (varM 1) (cM (.int 1))))) (cM (.str ")")))) (retS (tupM (consA (tupM nilA) (consA (binM addD (varM 1) (cM (.int 1))) nilA)))) nxS)
    (seqS (setS 3 (lstM nilA))
    (seqS (setS 4 (cM (.str ",")))
    (seqS (whileS (tB (binM eqD (varM 4) (cM (.str ",")))) (seqS (asgS (callM (lenM 3 R__thing_at) (consA (varM 0) (consA (varM 1) (consA (varM 2) nilA)))) (gTupM 2 (gConsM (gNm 5) (gConsM (gNm 6) gNilM))))
    (seqS (dropS (methM appendD (varM 3) (consA (varM 5) nilA)))
    (seqS (setS 4 (slM (varM 0) (inPt (varM 6)) (inPt (binM addD (varM 6) (cM (.int 1))))))
    (setS 1 (binM addD (varM 6) (cM (.int 1))))))))
    (seqS (ifS (tB (binM neD (varM 4) (cM (.str ")")))) (fun _ => stuck) nxS)
    (retS (tupM (consA (callM (fun1 tupleD) (consA (varM 3) nilA)) (consA (varM 1) nilA))))))))))
mutual
noncomputable def FF__thing_at : Nat → List D → M D
  | 0 => fun _ => stuck
  | j + 1 => fnF 7 (m__thing_at (FF__thing_at j) (FF__tuple_at j))
noncomputable def FF__tuple_at : Nat → List D → M D
  | 0 => fun _ => stuck
  | j + 1 => fnF 7 (m__tuple_at (FF__thing_at j) (FF__tuple_at j))
end
noncomputable def m_read : PL.Env → M Out :=
    (seqS (asgS (callM (lenM 3 (FF__thing_at 24)) (consA (varM 0) (consA (cM (.int 0)) (consA (cM (.int 0)) nilA)))) (gTupM 2 (gConsM (gNm 1) (gConsM (gNm 2) gNilM))))
    (seqS (ifS (tB (binM neD (varM 2) (callM (fun1 lenD) (consA (varM 0) nilA)))) (fun _ => stuck) nxS)
    (retS (varM 1))))
noncomputable def F_read : List D → M D := fnF 3 m_read
noncomputable def m__law_is_int : PL.Env → M Out :=
    (retS (andM (unM (isiD "int") (varM 0)) (notM (unM (isiD "bool") (varM 0)))))
noncomputable def F__law_is_int : List D → M D := fnF 1 m__law_is_int
noncomputable def m__law_same (R_ : List D → M D) : PL.Env → M Out :=
    (seqS (ifS (tB (unM isnD (varM 1))) (retS (unM isnD (varM 0))) nxS)
    (seqS (ifS (truM (unM (isiD "bool") (varM 1))) (retS (andM (unM (isiD "bool") (varM 0)) (binM eqD (varM 0) (varM 1)))) nxS)
    (seqS (ifS (truM (unM (isiD "int") (varM 1))) (retS (andM (callM (lenM 1 F__law_is_int) (consA (varM 0) nilA)) (binM eqD (varM 0) (varM 1)))) nxS)
    (seqS (ifS (truM (unM (isiD "str") (varM 1))) (retS (andM (unM (isiD "str") (varM 0)) (binM eqD (varM 0) (varM 1)))) nxS)
    (seqS (ifS (orT (tB (binM neD (unM (isiD "list") (varM 1)) (unM (isiD "list") (varM 0)))) (tB (binM neD (unM (isiD "tuple") (varM 1)) (unM (isiD "tuple") (varM 0))))) (retS (cM (.bl false))) nxS)
    (retS (andM (binM eqD (callM (fun1 lenD) (consA (varM 0) nilA)) (callM (fun1 lenD) (consA (varM 1) nilA))) (callM (fun1 allD) (consA (compF (srcA rng1D (consA (callM (fun1 lenD) (consA (varM 1) nilA)) nilA)) (gNm 2) yesT (callM (lenM 2 R_) (consA (binM ixD (varM 0) (varM 2)) (consA (binM ixD (varM 1) (varM 2)) nilA))) [2]) nilA)))))))))
noncomputable def FF__law_same : Nat → List D → M D
  | 0 => fun _ => stuck
  | j + 1 => fnF 3 (m__law_same (FF__law_same j))
@[reducible] noncomputable def B_law_1 : PL.Env → M Out :=
    (setS 2 (tupM (consA (varM 3) (consA (varM 2) nilA))))
@[reducible] noncomputable def B_law_2 : PL.Env → M Out :=
    (seqS (setS 5 (callM (lenM 1 (FF_write 12)) (consA (varM 4) nilA)))
    (ifS (orT (notT (truM (unM (isiD "str") (varM 5)))) (orT (tB (binM neD (varM 5) (callM (lenM 1 (FF__law_written 12)) (consA (varM 4) nilA)))) (notT (truM (callM (lenM 2 (FF__law_same 12)) (consA (callM (lenM 1 F_read) (consA (varM 5) nilA)) (consA (varM 4) nilA))))))) (retS (cM (.bl false))) nxS))
noncomputable def m_law : PL.Env → M Out :=
    (seqS (setS 1 (callM (lenM 1 F__law_pot) (consA (varM 0) nilA)))
    (seqS (setS 2 (callM (lenM 2 (FF__law_thing 5)) (consA (varM 1) (consA (cM (.int 3)) nilA))))
    (seqS (forS (srcA rng1D (consA (binM ixD (lstF (consA (cM (.int 0)) (consA (cM (.int 6)) nilA))) (callM (lenM 2 F__law_next) (consA (varM 1) (consA (cM (.int 2)) nilA)))) nilA)) (gNm 3) B_law_1)
    (seqS (forS (srcM (lstF (consA (varM 2) (consA (tupM (consA (binM mulSD (cM (.str "x")) (cM (.int 99))) (consA (unM negD (cM (.int 1))) nilA))) (consA (binM mulD (binM mulD (binM mulD (binM powD (cM (.int 10)) (cM (.int 60))) (binM powD (cM (.int 10)) (cM (.int 60)))) (binM powD (cM (.int 10)) (cM (.int 60)))) (binM powD (cM (.int 10)) (cM (.int 19)))) nilA))))) (gNm 4) B_law_2)
    (retS (cM (.bl true)))))))
noncomputable def F_law : List D → M D := fnF 6 m_law

/-! the law's draws -/
/-- the draws' state: the script's copy, the next place, what is left of a great number, the seed -/
structure Pot (c : Cell) : Prop where
  ok : ∃ (ns : List Int) (i : Nat) (big seed : Int), c = .lst [.vls (ns.map D.int), .int (i : Int), .int big, .int seed] ∧ 0 ≤ big ∧ 0 ≤ seed ∧ seed < 2147483647
theorem Pot.cl {c : Cell} (h : Pot c) (n : Nat) : CellCl n c := by
  obtain ⟨ns, i, big, seed, rfl, _⟩ := h.ok
  show ClL n [.vls (ns.map D.int), .int (i : Int), .int big, .int seed]
  simp only [clL_cons, cl_vls, cl_int, clL_int, clL_nil, and_self]
theorem run_pot (ns : List Int) (h63 : ns.length ≤ 63) : ∃ c, F__law_pot [.flst (ns.map D.int)] [] = .ok (.ptr 0) [c] ∧ Pot c := by
  obtain ⟨env', s', e1, seed, x, rfl, rfl, h0, h1⟩ := loop_fold (r := ⟨ns.map D.int, none⟩) (g := gNm 2) (b := B__law_pot_1) (enc := D.int) (step := fun (_ : Unit) (_ : Int) => ()) (fun _ env s => ∃ (seed : Int) (x : Option D), env = [some (.flst (ns.map D.int)), some (.int seed), x] ∧ s = [] ∧ 0 ≤ seed ∧ seed < 2147483647)
    (fun _ _ _ _ => trivial) ns () [some (.flst (ns.map D.int)), some (.int 1), none] [] ⟨1, none, rfl, rfl, by decide, by decide⟩ (by
    rintro z _ _ env s ⟨seed, x, rfl, rfl, h0, h1⟩
    have hm : MulOk seed 31 := mulOk_r (by decide) (by decide)
    refine ⟨_, _, ?_, (seed * 31 + z) % 2147483647, some (.int z), rfl, rfl, Int.emod_nonneg _ (by decide), Int.emod_lt_of_pos _ (by decide)⟩
    simp! only [B__law_pot_1, mulD_int hm, modD_pos (show (0 : Int) < 2147483647 by decide)])
  refine ⟨.lst [.vls (ns.map D.int), .int ((0 : Nat) : Int), .int 0, .int seed], ?_, ⟨⟨ns, 0, 0, seed, rfl, by decide, h0, h1⟩⟩⟩
  unfold F__law_pot m__law_pot
  simp! only [e1]
  all_goals rfl
def nextV (c : Cell) (l : Int) : Int := match c with
  | .lst [.vls ns, .int i, .int big, .int seed] =>
    if big = 0 ∧ i < (ns.length : Int) then (match ns[i.toNat]? with
      | some (.int z) => (if z < 0 then -z else z) % l
      | _ => 0)
    else if 0 < big then big % l else ((((seed * 48271 + 12345) % 2147483647) * 69621 + ((seed * 48271 + 12345) % 2147483647) / 127) % 2147483629) % l
  | _ => 0
def nextC (c : Cell) (l : Int) : Cell := match c with
  | .lst [.vls ns, .int i, .int big, .int seed] =>
    if big = 0 ∧ i < (ns.length : Int) then (match ns[i.toNat]? with
      | some (.int z) => .lst [.vls ns, .int (i + 1), .int (if (if z < 0 then -z else z) < 1000000000000000000 then 0 else (if z < 0 then -z else z) / l), .int seed]
      | _ => c)
    else if 0 < big then .lst [.vls ns, .int i, .int (big / l), .int seed] else .lst [.vls ns, .int i, .int big, .int ((seed * 48271 + 12345) % 2147483647)]
  | _ => c
theorem next_ok {c : Cell} {l : Int} (h : Pot c) (hl : 0 < l) : (0 ≤ nextV c l ∧ nextV c l < l) ∧ Pot (nextC c l) := by
  obtain ⟨ns, i, big, seed, rfl, hbig, hs0, hs1⟩ := h.ok
  unfold nextV nextC
  simp only [List.length_map, Int.toNat_natCast, List.getElem?_map]
  have em : ∀ x : Int, 0 ≤ x % l ∧ x % l < l := fun x => ⟨Int.emod_nonneg _ (by omega), Int.emod_lt_of_pos _ hl⟩
  by_cases h1 : big = 0 ∧ (i : Int) < (ns.length : Int)
  · rw [if_pos h1, if_pos h1, List.getElem?_eq_getElem (show i < ns.length by omega)]
    simp only [Option.map_some]
    obtain ⟨z, ez⟩ : ∃ z : Int, z = if ns[i] < 0 then -ns[i] else ns[i] := ⟨_, rfl⟩
    rw [← ez]
    have hz : 0 ≤ z := by rw [ez]; split <;> omega
    refine ⟨em _, ⟨⟨ns, i + 1, if z < 1000000000000000000 then 0 else z / l, seed, by rw [Int.natCast_add]; rfl, ?_, hs0, hs1⟩⟩⟩
    by_cases h3 : z < 1000000000000000000
    · rw [if_pos h3]; exact Int.le_refl _
    · rw [if_neg h3]; exact Int.ediv_nonneg hz (by omega)
  · rw [if_neg h1, if_neg h1]
    by_cases h2 : 0 < big
    · rw [if_pos h2, if_pos h2]
      exact ⟨em _, ⟨⟨ns, i, _, seed, rfl, Int.ediv_nonneg hbig (by omega), hs0, hs1⟩⟩⟩
    · rw [if_neg h2, if_neg h2]
      exact ⟨em _, ⟨⟨ns, i, big, _, rfl, hbig, Int.emod_nonneg _ (by decide), Int.emod_lt_of_pos _ (by decide)⟩⟩⟩
theorem run_next {c : Cell} {r : S} {l : Int} (h : Pot c) (hl : 0 < l) (hb9 : Bt 9000 l) : F__law_next [.ptr 0, .int l] (c :: r) = .ok (.int (nextV c l)) (nextC c l :: r) := by
  have hP := (next_ok h hl).2
  have hcl := hP.cl (r.length + 1)
  obtain ⟨ns, i, big, seed, rfl, hbig, hs0, hs1⟩ := h.ok
  have e10 : ∀ s : S, powD (.int 10) (.int 18) s = .ok (.int 1000000000000000000) s := fun s => by
    rw [powD_ok (by decide)]
    rfl
  have hm : ∀ (a : Int), 0 ≤ a → a < 2147483647 → ∀ b : Int, MulOk a b := fun a h0 h1 b => mulOk_l (by omega) (by omega)
  have hat0 : ∀ {ds : List D}, (Cell.lst ds :: r)[0]? = some (.lst ds) := rfl
  have st1 : ∀ (a b c d v : D), setLD (.ptr 0) (.int 1) v (Cell.lst [a, b, c, d] :: r) = .ok () (Cell.lst [a, v, c, d] :: r) := fun a b c d v => setLD_nat (ds := [a, b, c, d]) (j := 1) rfl (by show 1 < 4; decide) _
  have st2 : ∀ (a b c d v : D), setLD (.ptr 0) (.int 2) v (Cell.lst [a, b, c, d] :: r) = .ok () (Cell.lst [a, b, v, d] :: r) := fun a b c d v => setLD_nat (ds := [a, b, c, d]) (j := 2) rfl (by show 2 < 4; decide) _
  have st3 : ∀ (a b c d v : D), setLD (.ptr 0) (.int 3) v (Cell.lst [a, b, c, d] :: r) = .ok () (Cell.lst [a, b, c, v] :: r) := fun a b c d v => setLD_nat (ds := [a, b, c, d]) (j := 3) rfl (by show 3 < 4; decide) _
  have modp : ∀ (a : Int) (s : S), modD (.int a) (.int l) s = .ok (.int (a % l)) s := fun a s => modD_pos hl
  have key : (m__law_next (startE 5 [.ptr 0, .int l]) (Cell.lst [.vls (ns.map D.int), .int (i : Int), .int big, .int seed] :: r)).on (fun o s1 => outM o s1) = .ok (.int (nextV (Cell.lst [.vls (ns.map D.int), .int (i : Int), .int big, .int seed]) l)) (nextC (Cell.lst [.vls (ns.map D.int), .int (i : Int), .int big, .int seed]) l :: r) := by
    clear hP hcl
    unfold nextV nextC
    simp only [List.length_map, Int.toNat_natCast, List.getElem?_map]
    by_cases h1 : big = 0
    · subst h1
      by_cases h2 : (i : Int) < (ns.length : Int)
      · have hi : i < ns.length := by omega
        have hat : atI (ns.map D.int) (i : Int) = some (.int ns[i]) := PL.atI_nat (by rw [List.getElem?_map, List.getElem?_eq_getElem hi]; rfl)
        rw [if_pos ⟨rfl, h2⟩, if_pos ⟨rfl, h2⟩, List.getElem?_eq_getElem hi]
        simp only [Option.map_some]
        obtain ⟨z, ez⟩ : ∃ z : Int, z = if ns[i] < 0 then -ns[i] else ns[i] := ⟨_, rfl⟩
        rw [← ez]
        have hz : 0 ≤ z := by rw [ez]; split <;> omega
        by_cases h3 : z < 1000000000000000000
        · rw [if_pos h3]
          unfold m__law_next
          simp! only [ixD_lst hat0, lenD_vls, h2, decide_true, List.length_map, hat, st1, e10, ← ez, h3, modp]
        · rw [if_neg h3]
          have hzp : 0 < z := by omega
          unfold m__law_next
          simp! only [ixD_lst hat0, lenD_vls, h2, decide_true, decide_false, List.length_map, hat, st1, e10, ← ez, h3, st2, hzp, modp, fdivD_pos hl hb9]
      · have n1 : ¬ ((0 : Int) = 0 ∧ (i : Int) < (ns.length : Int)) := fun h => h2 h.2
        have n2 : ¬ (0 : Int) < 0 := by decide
        rw [if_neg n1, if_neg n1, if_neg n2, if_neg n2]
        have hm1 : MulOk seed 48271 := hm seed hs0 hs1 _
        obtain ⟨sd, es⟩ : ∃ x : Int, x = (seed * 48271 + 12345) % 2147483647 := ⟨_, rfl⟩
        have hd0 : 0 ≤ sd := by rw [es]; exact Int.emod_nonneg _ (by decide)
        have hd1 : sd < 2147483647 := by rw [es]; exact Int.emod_lt_of_pos _ (by decide)
        have h127 : Bt 9000 127 := Bt.mono (m := 7) (show (127 : Nat) < 2 ^ 7 by decide) (by decide)
        rw [← es]
        unfold m__law_next
        simp! only [ixD_lst hat0, lenD_vls, h2, decide_true, decide_false, List.length_map, show decide ((0 : Int) < 0) = false from rfl, mulD_int hm1, modD_pos (show (0 : Int) < 2147483647 by decide), st3, ← es, mulD_int (hm sd hd0 hd1 _), fdivD_pos (show (0 : Int) < 127 by decide) h127, modD_pos (show (0 : Int) < 2147483629 by decide), modp]
    · have hbp : 0 < big := by omega
      have n1 : ¬ (big = 0 ∧ (i : Int) < (ns.length : Int)) := fun h => h1 h.1
      rw [if_neg n1, if_neg n1, if_pos hbp, if_pos hbp]
      unfold m__law_next
      simp! only [ixD_lst hat0, lenD_vls, h1, hbp, decide_true, decide_false, modp, fdivD_pos hl hb9, st2]
  unfold F__law_next
  rw [fnF_run, key]
  exact cut_hd0 hcl (.int _)

/-! texts: write -/
open TX
open TL (numL tl)
section
variable {s : S}
theorem ti_tt {ds : List D} : isiD "tuple" (.tup ds) s = .ok (.bl true) s := isi_run rfl (by decide +kernel)
theorem ti_it {i : Int} : isiD "tuple" (.int i) s = .ok (.bl false) s := isi_run rfl (by decide +kernel)
theorem ti_st {x : Str} : isiD "tuple" (.str x) s = .ok (.bl false) s := isi_run rfl (by decide +kernel)
theorem ti_ts {ds : List D} : isiD "str" (.tup ds) s = .ok (.bl false) s := isi_run rfl (by decide +kernel)
theorem ti_is {i : Int} : isiD "str" (.int i) s = .ok (.bl false) s := isi_run rfl (by decide +kernel)
theorem ti_ss {x : Str} : isiD "str" (.str x) s = .ok (.bl true) s := isi_run rfl (by decide +kernel)
theorem ti_ti {ds : List D} : isiD "int" (.tup ds) s = .ok (.bl false) s := isi_run rfl (by decide +kernel)
theorem ti_ii {i : Int} : isiD "int" (.int i) s = .ok (.bl true) s := isi_run rfl (by decide +kernel)
theorem ti_si {x : Str} : isiD "int" (.str x) s = .ok (.bl false) s := isi_run rfl (by decide +kernel)
theorem ti_tb {ds : List D} : isiD "bool" (.tup ds) s = .ok (.bl false) s := isi_run rfl (by decide +kernel)
theorem ti_ib {i : Int} : isiD "bool" (.int i) s = .ok (.bl false) s := isi_run rfl (by decide +kernel)
theorem ti_sb {x : Str} : isiD "bool" (.str x) s = .ok (.bl false) s := isi_run rfl (by decide +kernel)
theorem ti_tl {ds : List D} : isiD "list" (.tup ds) s = .ok (.bl false) s := isi_run rfl (by decide +kernel)
/-! ### digits -/
theorem log_of {n : Nat} {k : Nat} (h : n < 2 ^ k) (hk : 0 < k) : n.log2 < k := by
  rcases Nat.eq_zero_or_pos n with z | z
  · subst z
    exact Nat.lt_of_le_of_lt (by decide) hk
  · exact (Nat.log2_lt (by omega)).mpr h
theorem pow_ok : (10 : Nat) ^ 210 < 2 ^ 1920 := by decide +kernel
def BLK : Nat := 10 ^ 64
theorem blk_eq : (BLK : Int) = 10000000000000000000000000000000000000000000000000000000000000000 := by decide +kernel
theorem blk_log : ((BLK : Int)).natAbs.log2 < 9000 := by
  rw [Int.natAbs_natCast]
  exact log_of (Nat.lt_trans (show BLK < 2 ^ 1920 by decide +kernel) (Nat.pow_lt_pow_right (by decide) (by decide))) (by decide)
theorem app_end {ds : List D} {d : D} {mo : PL.Env → M D} {ma : PL.Env → M (List D)} {env : PL.Env} (e0 : mo env (s ++ [.lst ds]) = .ok (.ptr s.length) (s ++ [.lst ds])) (e1 : ma env (s ++ [.lst ds]) = .ok [d] (s ++ [.lst ds])) (hz : ds.length ≤ 100000) : methM appendD mo ma env (s ++ [.lst ds]) = .ok .non (s ++ [.lst (ds ++ [d])]) := by
  have h : (s ++ [Cell.lst ds])[s.length]? = some (.lst ds) := by simp
  rw [append_run e0 h e1 h hz]
  simp
theorem zf_go {mo ma : PL.Env → M D} {env : PL.Env} {s1 s2 : S} {m : Nat} (h1 : mo env s = .ok (.str (tx (numL m))) s1) (h2 : ma env s1 = .ok (.int 64) s2) (h : m < BLK) : zfM mo ma env s = .ok (.str (tx (padL 64 m))) s2 := by
  rw [zf_run, h1, on_ok]
  show (ma env s1).on _ = _
  rw [h2, on_ok]
  exact zf_tx h
theorem run_digits {n : Nat} (h : n < 10 ^ 210) : F__digits [.int (n : Int)] s = .ok (.str (tx (numL n))) s := by
  have hblk0 : 0 < BLK := by decide +kernel
  have h64 : BLK = 10 ^ 64 := rfl
  have hsm : ∀ m : Nat, m < BLK → (m : Int).natAbs.log2 < 1920 := fun m hm => by
    rw [Int.natAbs_natCast]
    exact log_of (Nat.lt_trans hm (by decide +kernel)) (by decide)
  have hz : ∀ m : Nat, numZ (m : Int) = numL m := fun m => by
    unfold numZ
    rw [if_neg (by omega), Int.natAbs_natCast]
  obtain ⟨env', s', e1, m, ys, x2, rfl, rfl, hm, hb, hl, hk⟩ := while_all (c := T__digits_1) (b := B__digits_2) (fun k env s' => ∃ (ys : List (List Nat)) (x2 : Option D), env = [some (.int (k : Int)), some (.ptr s.length), x2] ∧ s' = s ++ [.lst (ys.map fun l => D.str (tx l))] ∧ numL n = numL k ++ ys.reverse.flatten ∧ k < 10 ^ 210 ∧ (∀ y ∈ ys, y.length ≤ 64) ∧ (ys.flatten).length = 64 * ys.length ∧ k * 10 ^ (64 * ys.length) < 10 ^ 210)
    (fun env s' => ∃ (m : Nat) (ys : List (List Nat)) (x2 : Option D), env = [some (.int (m : Int)), some (.ptr s.length), x2] ∧ s' = s ++ [.lst (ys.map fun l => D.str (tx l))] ∧ numL n = numL m ++ ys.reverse.flatten ∧ m < BLK ∧ (∀ y ∈ ys, y.length ≤ 64) ∧ (ys.flatten).length = 64 * ys.length) (by
    rintro k env s' ⟨ys, x2, rfl, rfl, hm, hb, hl, hf, hk⟩
    by_cases hge : k < BLK
    · left
      have hd : decide ((10000000000000000000000000000000000000000000000000000000000000000 : Int) ≤ (k : Int)) = false := decide_eq_false (by have := blk_eq; omega)
      refine ⟨_, ?_, k, ys, x2, rfl, rfl, hm, hge, hl, hf⟩
      simp! only [T__digits_1, hd]
    · right
      have hd : decide ((10000000000000000000000000000000000000000000000000000000000000000 : Int) ≤ (k : Int)) = true := decide_eq_true (by have := blk_eq; omega)
      have hy : ys.length ≤ 100 := by
        rcases Nat.lt_or_ge 100 ys.length with z | z
        · exfalso
          have p1 : 10 ^ 210 ≤ 10 ^ (64 * ys.length) := Nat.pow_le_pow_right (by decide) (by omega)
          have p2 : 1 * 10 ^ (64 * ys.length) ≤ k * 10 ^ (64 * ys.length) := Nat.mul_le_mul_right _ (by omega)
          omega
        · exact z
      have hdm : ∀ s : S, divmodL [.int (k : Int), .int 10000000000000000000000000000000000000000000000000000000000000000] s = .ok (.tup [.int ((k / BLK : Nat) : Int), .int ((k % BLK : Nat) : Int)]) s := fun s => by
        rw [← blk_eq, divmod_run (by omega) blk_log]
        rfl
      have hlt : k / BLK < k := Nat.div_lt_self (by omega) (by decide +kernel)
      have hml : k % BLK < BLK := Nat.mod_lt _ hblk0
      have es : (ys ++ [padL 64 (k % BLK)]).map (fun l => D.str (tx l)) = ys.map (fun l => D.str (tx l)) ++ [D.str (tx (padL 64 (k % BLK)))] := by rw [List.map_append]; rfl
      refine ⟨s ++ [.lst (ys.map fun l => D.str (tx l))], [some (.int ((k / BLK : Nat) : Int)), some (.ptr s.length), some (.int ((k % BLK : Nat) : Int))], s ++ [.lst ((ys ++ [padL 64 (k % BLK)]).map fun l => D.str (tx l))], k / BLK, ?_, ?_, hlt, ys ++ [padL 64 (k % BLK)], _, rfl, rfl, ?_, by omega, ?_, ?_, ?_⟩
      · simp! only [T__digits_1, hd]
      · have e1 : ∀ (x0 : D) (s1 : S), (zfM (callM (fun1 strID) (consA (varM 2) nilA)) (cM (.int 64))) [some x0, some (.ptr s.length), some (.int ((k % BLK : Nat) : Int))] s1 = .ok (.str (tx (padL 64 (k % BLK)))) s1 := fun x0 s1 => by
          refine zf_go ?_ rfl hml
          simp! only [str_num (hsm _ hml), hz]
        rw [es]
        have ap : ∀ (x0 : D), (methM appendD (varM 1) (consA (zfM (callM (fun1 strID) (consA (varM 2) nilA)) (cM (.int 64))) nilA)) [some x0, some (.ptr s.length), some (.int ((k % BLK : Nat) : Int))] (s ++ [.lst (ys.map fun l => D.str (tx l))]) = .ok .non (s ++ [.lst (ys.map (fun l => D.str (tx l)) ++ [D.str (tx (padL 64 (k % BLK)))])]) := fun x0 => by
          refine app_end rfl ?_ (by rw [List.length_map]; omega)
          simp! only [e1]
        simp! only [B__digits_2, hdm, ap]
      · have e64 := num_split 64 k (by rw [← h64]; omega)
        rw [← h64] at e64
        rw [hm, e64, List.reverse_append, List.append_assoc]
        rfl
      · intro y hy2
        rcases List.mem_append.mp hy2 with q | q
        · exact hl y q
        · rw [List.mem_singleton.mp q, padL_len]
          exact Nat.le_refl _
      · rw [List.flatten_append, List.length_append, hf, List.length_append]
        show _ + ([padL 64 (k % BLK)].flatten).length = 64 * (ys.length + 1)
        have : [padL 64 (k % BLK)].flatten = padL 64 (k % BLK) := by simp
        rw [this, padL_len]
        omega
      · have e2 : 64 * (ys ++ [padL 64 (k % BLK)]).length = 64 + 64 * ys.length := by rw [List.length_append]; show 64 * (ys.length + 1) = _; omega
        rw [e2, Nat.pow_add, ← Nat.mul_assoc, ← h64]
        refine Nat.lt_of_le_of_lt (Nat.mul_le_mul_right _ (Nat.div_mul_le_self k BLK)) hk) n [some (.int (n : Int)), some (.ptr s.length), none] (s ++ [.lst []]) ⟨[], none, rfl, rfl, by simp, h, by simp, by simp, by simpa using h⟩
  have hd2 : ∀ s : S, strID (.int (m : Int)) s = .ok (.str (tx (numL m))) s := fun s => by rw [str_num (hsm m hb), hz]
  have ml : (numL m).length ≤ 64 := TL.numL_len (by decide) hb
  have hy : ys.length ≤ 100000 := by
    have : (numL n).length ≤ 210 := TL.numL_len (by decide) h
    have e := congrArg List.length hm
    rw [List.length_append] at e
    have e2 : ys.reverse.flatten.length = ys.flatten.length := by
      rw [List.length_flatten, List.length_flatten, List.map_reverse, List.sum_reverse]
    omega
  have ap : (methM appendD (varM 1) (consA (callM (fun1 strID) (consA (varM 0) nilA)) nilA)) [some (.int (m : Int)), some (.ptr s.length), x2] (s ++ [.lst (ys.map fun l => D.str (tx l))]) = .ok .non (s ++ [.lst (ys.map (fun l => D.str (tx l)) ++ [D.str (tx (numL m))])]) := by
    refine app_end rfl ?_ (by rw [List.length_map]; omega)
    simp! only [hd2]
  have hj : (joinM (cM (.str "")) (consA (unM revD (varM 1)) nilA)) [some (.int (m : Int)), some (.ptr s.length), x2] (s ++ [.lst (ys.map (fun l => D.str (tx l)) ++ [D.str (tx (numL m))])]) = .ok (.str (tx (numL n))) (s ++ [.lst (ys.map (fun l => D.str (tx l)) ++ [D.str (tx (numL m))])]) := by
    have e := join_run (a := []) (ys := (ys ++ [numL m]).reverse) (mo := cM (.str "")) (ma := consA (unM revD (varM 1)) nilA) (env := [some (.int (m : Int)), some (.ptr s.length), x2]) (s1 := s ++ [.lst (ys.map (fun l => D.str (tx l)) ++ [D.str (tx (numL m))])]) (s2 := s ++ [.lst (ys.map (fun l => D.str (tx l)) ++ [D.str (tx (numL m))])]) rfl (by
      have h : (s ++ [Cell.lst (ys.map (fun l => D.str (tx l)) ++ [D.str (tx (numL m))])])[s.length]? = some (.lst (ys.map (fun l => D.str (tx l)) ++ [D.str (tx (numL m))])) := by simp
      have r : revD (.ptr s.length) (s ++ [Cell.lst (ys.map (fun l => D.str (tx l)) ++ [D.str (tx (numL m))])]) = .ok (.vls (ys.map (fun l => D.str (tx l)) ++ [D.str (tx (numL m))]).reverse) (s ++ [Cell.lst (ys.map (fun l => D.str (tx l)) ++ [D.str (tx (numL m))])]) := by
        unfold revD
        simp only [h]
      simp! only [r]
      simp) (by
      rw [List.length_reverse, List.map_reverse, List.sum_reverse, List.map_append, List.sum_append, List.length_append]
      have : (ys.map (·.length)).sum = ys.flatten.length := by rw [List.length_flatten]
      show (ys.map (·.length)).sum + ([numL m].map (·.length)).sum + (ys.length + 1) * 0 ≤ 16777216
      have : ([numL m].map (·.length)).sum = (numL m).length := by simp
      omega)
    rw [e, TX.join_nil]
    have : (ys ++ [numL m]).reverse.flatten = numL n := by rw [hm]; simp
    rw [this]
  unfold F__digits m__digits
  have hnil : (Cell.lst []) = .lst (([] : List (List Nat)).map fun l => D.str (tx l)) := rfl
  simp! only [e1, ap, hj]
/-! ### write -/
theorem lit_o : ("(" : Str) = tx [40] := by decide +kernel
theorem lit_c : (")" : Str) = tx [41] := by decide +kernel
theorem lit_k : ("," : Str) = tx [44] := by decide +kernel
theorem lit_d : (":" : Str) = tx [58] := by decide +kernel
theorem lit_m : ("-" : Str) = tx [45] := by decide +kernel
theorem lit_0 : ("0" : Str) = tx [48] := by decide +kernel
theorem lit_9 : ("9" : Str) = tx [57] := by decide +kernel
theorem num_lt (n : Nat) : n < 10 ^ (numL n).length := by
  induction n using Nat.strongRecOn with
  | _ n ih =>
    by_cases h : n < 10
    · rw [TL.numL_lt h]
      exact h
    · have := ih (n / 10) (by omega)
      rw [TL.numL_step (by omega), List.length_append, Nat.pow_add]
      show n < 10 ^ (numL (n / 10)).length * 10
      omega
theorem ok_small {i : Int} (h : okT (.int i) = true) : i.natAbs < 10 ^ 210 := by
  unfold okT at h
  have h := of_decide_eq_true h
  exact Nat.lt_trans (num_lt _) (Nat.lt_of_le_of_lt (Nat.pow_le_pow_right (by decide) h) (by decide +kernel))
theorem wrs_mem : ∀ {ts : List Thg} {t : Thg}, t ∈ ts → (wr t).length ≤ (wrs ts).length
  | [x], t, h => by
    rw [List.mem_singleton.mp h, wrs_cons, wrm_nil, List.append_nil]
    exact Nat.le_refl _
  | x :: y :: ts, t, h => by
    have e := wrs_cons2 x y ts []
    rw [List.append_nil, List.append_nil] at e
    rw [e, List.length_append, List.length_cons]
    rcases List.mem_cons.mp h with rfl | h
    · omega
    · have := wrs_mem h
      omega
theorem jc_run {m : PL.Env → M D} {mr : Str → PL.Env → M D} {a y : List Nat} {env : PL.Env} (h : m env s = .ok (.str (tx y)) s) (hl : a.length + y.length ≤ 100000) : jConsM m mr (tx a) env s = mr (tx (a ++ y)) env s := by
  show (m env >>= fun x => match x with
    | .str y => if (tx a ++ y).length ≤ 100000 then mr (tx a ++ y) env else stuck
    | _ => stuck) s = _
  rw [bind_run, h]
  simp only []
  rw [tx_app, tx_len, if_pos (by rw [List.length_append]; exact hl)]
theorem wrs_cons2_nil (t t2 : Thg) : wrs [t, t2] = wr t ++ (44 :: wr t2) := by
  have e := wrs_cons2 t t2 [] []
  rw [List.append_nil, List.append_nil] at e
  rw [e, wrs_cons, wrm_nil, List.append_nil]
theorem tup_len (ts : List Thg) : (wr (.tup ts)).length = (wrs ts).length + 2 := by
  rw [wr_tup, List.length_cons, List.length_append]
  rfl
theorem run_join {F : List D → M D} {ts : List Thg} (hl : (wrs ts).length ≤ 100000) (h : ∀ t ∈ ts, F [tD t] s = .ok (.str (tx (wr t))) s) : (joinM (cM (.str ",")) (consA (compF (srcM (varM 0)) (gNm 1) yesT (callM (lenM 1 F) (consA (varM 1) nilA)) [1]) nilA)) [some (.tup (ts.map tD)), none] s = .ok (.str (tx (wrs ts))) s := by
  have hw := wrs_len ts
  have c : compF (srcM (varM 0)) (gNm 1) yesT (callM (lenM 1 F) (consA (varM 1) nilA)) [1] [some (.tup (ts.map tD)), none] s = .ok (.vls (ts.map fun t => D.str (tx (wr t)))) s := compF_enc (enc := tD) (out := fun t => D.str (tx (wr t))) (d0 := .tup (ts.map tD)) rfl rfl (by omega) fun t ht => by
    unfold turnC
    simp! only [wipeE, h t ht]
  have e := join_run (s1 := s) (s2 := s) (a := [44]) (ys := ts.map wr) (mo := cM (.str ",")) (ma := consA (compF (srcM (varM 0)) (gNm 1) yesT (callM (lenM 1 F) (consA (varM 1) nilA)) [1]) nilA) (env := [some (.tup (ts.map tD)), none]) (by rw [lit_k]; rfl) (by
    simp! only [c]
    rw [List.map_map]
    rfl) (by
    rw [List.length_map]
    show _ + ts.length * 1 ≤ 16777216
    omega)
  rw [e, join_wrs]
theorem hz_neg {i : Int} (h : i < 0) : ((-i).toNat : Int) = -i ∧ wr (.int i) = 45 :: numL (-i).toNat := by
  refine ⟨by omega, ?_⟩
  rw [wr_int]
  unfold numZ
  rw [if_pos h]
  congr 2
  omega
theorem hz_pos {i : Int} (h : ¬ i < 0) : (i.toNat : Int) = i ∧ wr (.int i) = numL i.toNat := by
  refine ⟨by omega, ?_⟩
  rw [wr_int]
  unfold numZ
  rw [if_neg h]
  congr 1
  omega
theorem run_write : ∀ (j : Nat) (t : Thg) (s : S), dep t < j → okT t = true → (wr t).length ≤ 100000 → FF_write j [tD t] s = .ok (.str (tx (wr t))) s
  | 0, _, _, h, _, _ => absurd h (Nat.not_lt_zero _)
  | j + 1, .int i, s, h, ok, hl => by
    have hs := ok_small ok
    rw [tD_int]
    by_cases hi : i < 0
    · obtain ⟨e1, e2⟩ := hz_neg hi
      have rd : ∀ s : S, F__digits [.int (-i)] s = .ok (.str (tx (numL (-i).toNat))) s := fun s => by
        have := run_digits (s := s) (n := (-i).toNat) (by omega)
        rw [e1] at this
        exact this
      have ad : ∀ s : S, addD (.str (tx [45])) (.str (tx (numL (-i).toNat))) s = .ok (.str (tx (wr (.int i)))) s := fun s => by
        rw [add_tx (by rw [e2] at hl; simp at hl ⊢; omega), e2]
        rfl
      show fnF 2 (m_write (FF_write j)) [.int i] s = _
      unfold m_write
      simp! only [ti_it, ti_is, hi, lit_m, rd, ad]
    · obtain ⟨e1, e2⟩ := hz_pos hi
      have rd : ∀ s : S, F__digits [.int i] s = .ok (.str (tx (wr (.int i)))) s := fun s => by
        have := run_digits (s := s) (n := i.toNat) (by omega)
        rw [e1, ← e2] at this
        exact this
      show fnF 2 (m_write (FF_write j)) [.int i] s = _
      unfold m_write
      simp! only [ti_it, ti_is, hi, rd]
  | j + 1, .txt l, s, h, ok, hl => by
    have ok2 : l.length ≤ 99 := by unfold okT at ok; exact of_decide_eq_true ok
    rw [tD_txt]
    have lz : numZ (l.length : Int) = numL l.length := by
      unfold numZ
      rw [if_neg (by omega), Int.natAbs_natCast]
    have l2 : (numL l.length).length ≤ 2 := TL.numL_len (by decide) (by omega)
    have lg : ((l.length : Nat) : Int).natAbs.log2 < 1920 := by
      rw [Int.natAbs_natCast]
      exact log_of (Nat.lt_of_le_of_lt ok2 (by decide +kernel)) (by decide)
    have lt : ∀ s : S, lenD (.str (tx l)) s = .ok (.int l.length) s := fun s => len_tx (by omega)
    have ff : ∀ (s : S) (env : PL.Env), env = [some (D.str (tx l)), none] → ((jConsM (unM fmtD (callM (fun1 lenD) (consA (varM 0) nilA))) (jConsM (cM (.str ":")) (jConsM (unM fmtD (varM 0)) jNilM))) Str.empty) env s = .ok (.str (tx (wr (.txt l)))) s := fun s env he => by
      subst he
      have e0 : (Str.empty : Str) = tx [] := rfl
      rw [e0, jc_run (y := numL l.length) (by simp! only [lt, fmt_num lg, lz]) (by simp; omega), jc_run (y := [58]) (by simp! only [lit_d]) (by simp; omega), jc_run (y := l) (by simp! only [fmt_tx (show l.length ≤ 100000 by omega)]) (by simp; omega)]
      rw [wr_txt]
      show R.ok (D.str (tx ([] ++ numL l.length ++ [58] ++ l))) s = _
      simp
    show fnF 2 (m_write (FF_write j)) [.str (tx l)] s = _
    unfold m_write
    simp! only [ti_st, ti_ss, ff]
  | j + 1, .tup ts, s, h, ok, hl => by
    have hd : deps ts < j := by unfold dep at h; omega
    have hk : okTs ts = true := by unfold okT at ok; exact ok
    have hw : (wrs ts).length + 2 ≤ 100000 := by rw [← tup_len]; exact hl
    have rj := run_join (s := s) (F := FF_write j) (ts := ts) (by omega) fun t ht => run_write j t s (by have := deps_mem t ht; omega) (okTs_mem hk t ht) (by have := wrs_mem ht; omega)
    have a1 : ∀ s : S, addD (.str (tx [40])) (.str (tx (wrs ts))) s = .ok (.str (tx (40 :: wrs ts))) s := fun s => add_tx (by simp; omega)
    have a2 : ∀ s : S, addD (.str (tx (40 :: wrs ts))) (.str (tx [41])) s = .ok (.str (tx (wr (.tup ts)))) s := fun s => by
      rw [add_tx (by simp; omega), wr_tup]
      rfl
    rw [tD_tup]
    show fnF 2 (m_write (FF_write j)) [.tup (ts.map tD)] s = _
    unfold m_write
    simp! only [ti_tt, rj, lit_o, lit_c, a1, a2]
theorem run_written : ∀ (j : Nat) (t : Thg) (s : S), dep t < j → okT t = true → (wr t).length ≤ 100000 → FF__law_written j [tD t] s = .ok (.str (tx (wr t))) s
  | 0, _, _, h, _, _ => absurd h (Nat.not_lt_zero _)
  | j + 1, .int i, s, h, ok, hl => by
    have hs := ok_small ok
    rw [tD_int]
    have rd : ∀ s : S, strID (.int i) s = .ok (.str (tx (wr (.int i)))) s := fun s => by
      rw [str_num (log_of (Nat.lt_trans hs (by decide +kernel)) (by decide)), wr_int]
    show fnF 2 (m__law_written (FF__law_written j)) [.int i] s = _
    unfold m__law_written
    simp! only [ti_ii, rd]
  | j + 1, .txt l, s, h, ok, hl => by
    have ok2 : l.length ≤ 99 := by unfold okT at ok; exact of_decide_eq_true ok
    rw [tD_txt]
    have lz : numZ (l.length : Int) = numL l.length := by
      unfold numZ
      rw [if_neg (by omega), Int.natAbs_natCast]
    have l2 : (numL l.length).length ≤ 2 := TL.numL_len (by decide) (by omega)
    have lg : ((l.length : Nat) : Int).natAbs.log2 < 1920 := by
      rw [Int.natAbs_natCast]
      exact log_of (Nat.lt_of_le_of_lt ok2 (by decide +kernel)) (by decide)
    have lt : ∀ s : S, lenD (.str (tx l)) s = .ok (.int l.length) s := fun s => len_tx (by omega)
    have a1 : ∀ s : S, addD (.str (tx (numL l.length))) (.str (tx [58])) s = .ok (.str (tx (numL l.length ++ [58]))) s := fun s => add_tx (by simp; omega)
    have a2 : ∀ s : S, addD (.str (tx (numL l.length ++ [58]))) (.str (tx l)) s = .ok (.str (tx (wr (.txt l)))) s := fun s => by
      rw [add_tx (by simp; omega), wr_txt, List.append_assoc]
      rfl
    show fnF 2 (m__law_written (FF__law_written j)) [.str (tx l)] s = _
    unfold m__law_written
    simp! only [ti_si, ti_ss, lt, str_num lg, lz, lit_d, a1, a2]
  | j + 1, .tup ts, s, h, ok, hl => by
    have hd : deps ts < j := by unfold dep at h; omega
    have hk : okTs ts = true := by unfold okT at ok; exact ok
    have hw : (wrs ts).length + 2 ≤ 100000 := by rw [← tup_len]; exact hl
    have rj := run_join (s := s) (F := FF__law_written j) (ts := ts) (by omega) fun t ht => run_written j t s (by have := deps_mem t ht; omega) (okTs_mem hk t ht) (by have := wrs_mem ht; omega)
    have a1 : ∀ s : S, addD (.str (tx [40])) (.str (tx (wrs ts))) s = .ok (.str (tx (40 :: wrs ts))) s := fun s => add_tx (by simp; omega)
    have a2 : ∀ s : S, addD (.str (tx (40 :: wrs ts))) (.str (tx [41])) s = .ok (.str (tx (wr (.tup ts)))) s := fun s => by
      rw [add_tx (by simp; omega), wr_tup]
      rfl
    rw [tD_tup]
    show fnF 2 (m__law_written (FF__law_written j)) [.tup (ts.map tD)] s = _
    unfold m__law_written
    simp! only [ti_ti, ti_ts, rj, lit_o, lit_c, a1, a2]
/-! ### the same -/
theorem run_isint {i : Int} : F__law_is_int [.int i] s = .ok (.bl true) s := by
  unfold F__law_is_int m__law_is_int
  simp! only [ti_ii, ti_ib]
theorem run_same : ∀ (j : Nat) (t : Thg) (s : S), dep t < j → (wr t).length ≤ 100000 → FF__law_same j [tD t, tD t] s = .ok (.bl true) s
  | 0, _, _, h, _ => absurd h (Nat.not_lt_zero _)
  | j + 1, .int i, s, h, hl => by
    rw [tD_int]
    show fnF 3 (m__law_same (FF__law_same j)) [.int i, .int i] s = _
    unfold m__law_same
    simp! only [ti_ib, ti_ii, run_isint]
  | j + 1, .txt l, s, h, hl => by
    have n1 : ∀ s : S, isnD (.str (tx l)) s = .ok (.bl false) s := fun s => rfl
    rw [tD_txt]
    show fnF 3 (m__law_same (FF__law_same j)) [.str (tx l), .str (tx l)] s = _
    unfold m__law_same
    simp! only [ti_sb, ti_si, ti_ss, n1, eq_tx]
  | j + 1, .tup ts, s, h, hl => by
    have hd : deps ts < j := by unfold dep at h; omega
    have hw : (wrs ts).length + 2 ≤ 100000 := by rw [← tup_len]; exact hl
    have hwl := wrs_len ts
    have n1 : ∀ s : S, isnD (.tup (ts.map tD)) s = .ok (.bl false) s := fun s => rfl
    have c : compF (srcA rng1D (consA (callM (fun1 lenD) (consA (varM 1) nilA)) nilA)) (gNm 2) yesT (callM (lenM 2 (FF__law_same j)) (consA (binM ixD (varM 0) (varM 2)) (consA (binM ixD (varM 1) (varM 2)) nilA))) [2] [some (.tup (ts.map tD)), some (.tup (ts.map tD)), none] s = .ok (.vls ((List.range ts.length).map fun _ => D.bl true)) s := compF_rng (out := fun _ => D.bl true) (by simp! only [List.length_map]) (by omega) fun k hk => by
      have hat : atI (ts.map tD) (k : Int) = some (tD ts[k]) := PL.atI_nat (by rw [List.getElem?_map, List.getElem?_eq_getElem hk]; rfl)
      have hm : ts[k] ∈ ts := List.getElem_mem hk
      have rs : ∀ s : S, FF__law_same j [tD ts[k], tD ts[k]] s = .ok (.bl true) s := fun s => run_same j _ s (by have := deps_mem _ hm; omega) (by have := wrs_mem hm; omega)
      unfold turnC
      simp! only [wipeE, hat, rs]
    have al : ∀ s : S, allD (.vls ((List.range ts.length).map fun _ => D.bl true)) s = .ok (.bl true) s := fun s => by
      have e : ((List.range ts.length).map fun _ => D.bl true) = (List.replicate ts.length true).map D.bl := by
        rw [List.map_replicate]
        rw [List.map_const', List.length_range]
      have ea : (List.replicate ts.length true).all id = true := by simp
      rw [e]
      show (match dBls ((List.replicate ts.length true).map D.bl) with
        | some bs => R.ok (D.bl (bs.all id)) s
        | none => .stuck) = _
      rw [dBls_map]
      simp only [ea]
    rw [tD_tup]
    show fnF 3 (m__law_same (FF__law_same j)) [.tup (ts.map tD), .tup (ts.map tD)] s = _
    unfold m__law_same
    simp! only [ti_tb, ti_ti, ti_ts, ti_tl, ti_tt, n1, c, al]
end

/-! texts: read -/
open TX
open TL (numL tl)
section
variable {s : S}
theorem lit_e : ("" : Str) = tx [] := by decide +kernel
theorem dtx {a b : List Nat} (h : a ≠ b) : decide (tx a = tx b) = false := decide_eq_false fun e => h (tx_inj e)
theorem sl1 {l : List Nat} {a : Nat} (h : l.length ≤ 100000) : slD (.str (tx l)) (some (a : Int)) (some ((a : Int) + 1)) s = .ok (.str (tx ((l.drop a).take 1))) s := by
  have := sl_tx (s := s) (a := a) (b := a + 1) h
  rw [Nat.add_sub_cancel_left] at this
  exact this
theorem drop_more {l p r : List Nat} {a : Nat} (h : l.drop a = p ++ r) : l.drop (a + p.length) = r := by
  rw [← List.drop_drop, h, List.drop_left]
theorem drop_le {l r : List Nat} {a c : Nat} (h : l.drop a = c :: r) : a + 1 + r.length = l.length := by
  have := congrArg List.length h
  rw [List.length_drop, List.length_cons] at this
  omega
/-! ### digits -/
theorem run_digits_at {l : List Nat} {a : Nat} (h : l.length ≤ 100000) : F__digits_at [.str (tx l), .int (a : Int)] s = .ok (.tup [.str (tx (spanD (l.drop a)).1), .int ((a + (spanD (l.drop a)).1.length : Nat) : Int)]) s := by
  obtain ⟨env', s', e1, p, r, rfl, rfl, hp, hd, hn⟩ := while_all (c := T__digits_at_1) (b := B__digits_at_2) (fun k env s' => ∃ (p r : List Nat), env = [some (.str (tx l)), some (.int (a : Int)), some (.int ((a + p.length : Nat) : Int))] ∧ s' = s ∧ l.drop a = p ++ r ∧ (∀ c ∈ p, isDg c = true) ∧ k = r.length)
    (fun env s' => ∃ (p r : List Nat), env = [some (.str (tx l)), some (.int (a : Int)), some (.int ((a + p.length : Nat) : Int))] ∧ s' = s ∧ l.drop a = p ++ r ∧ (∀ c ∈ p, isDg c = true) ∧ noDg r) (by
    rintro k env s' ⟨p, r, rfl, rfl, hp, hd, rfl⟩
    have hs : ∀ s : S, slD (.str (tx l)) (some ((a + p.length : Nat) : Int)) (some (((a + p.length : Nat) : Int) + 1)) s = .ok (.str (tx (r.take 1))) s := fun s => by
      rw [sl1 h, drop_more hp]
    cases r with
    | nil =>
      left
      refine ⟨_, ?_, p, [], rfl, rfl, hp, hd, fun c r' e => by cases e⟩
      have e0 : (!decide (([] : List Nat) < [48])) = false := by decide
      simp! only [T__digits_at_1, hs, lit_0, lit_9, le_tx, List.take_nil, e0]
    | cons c r =>
      have e0 : (!decide ([c] < [48])) = decide (48 ≤ c) := by
        have := lt1 c 48
        by_cases z : c < 48
        · rw [decide_eq_true (this.mpr z), decide_eq_false (by omega)]; rfl
        · rw [decide_eq_false (fun q => z (this.mp q)), decide_eq_true (by omega)]; rfl
      have e9 : (!decide ([57] < [c])) = decide (c ≤ 57) := by
        have := lt1 57 c
        by_cases z : 57 < c
        · rw [decide_eq_true (this.mpr z), decide_eq_false (by omega)]; rfl
        · rw [decide_eq_false (fun q => z (this.mp q)), decide_eq_true (by omega)]; rfl
      have et : (c :: r).take 1 = [c] := rfl
      rw [et] at hs
      by_cases h1 : 48 ≤ c
      · by_cases h2 : c ≤ 57
        · right
          refine ⟨s', [some (.str (tx l)), some (.int (a : Int)), some (.int ((a + (p ++ [c]).length : Nat) : Int))], s', r.length, ?_, ?_, Nat.lt_succ_self _, p ++ [c], r, rfl, rfl, ?_, ?_, rfl⟩
          · simp! only [T__digits_at_1, hs, lit_0, lit_9, le_tx, e0, e9, h1, h2]
          · have el : ((a + (p ++ [c]).length : Nat) : Int) = ((a + p.length : Nat) : Int) + 1 := by rw [List.length_append]; show ((a + (p.length + 1) : Nat) : Int) = _; omega
            rw [el]
            show (augS 2 (int2 fun i j => .int (i + j)) (cM (.int 1))) _ s' = _
            rfl
          · rw [hp, List.append_assoc]; rfl
          · intro x hx
            rcases List.mem_append.mp hx with q | q
            · exact hd x q
            · rw [List.mem_singleton.mp q]
              unfold isDg
              rw [decide_eq_true h1, decide_eq_true h2]
              rfl
        · left
          refine ⟨_, ?_, p, c :: r, rfl, rfl, hp, hd, fun c2 r' e => by cases e; unfold isDg; rw [decide_eq_false h2, Bool.and_false]⟩
          simp! only [T__digits_at_1, hs, lit_0, lit_9, le_tx, e0, e9, h1, h2]
      · left
        refine ⟨_, ?_, p, c :: r, rfl, rfl, hp, hd, fun c2 r' e => by cases e; unfold isDg; rw [decide_eq_false h1, Bool.false_and]⟩
        simp! only [T__digits_at_1, hs, lit_0, lit_9, le_tx, e0, h1]) (l.drop a).length [some (.str (tx l)), some (.int (a : Int)), some (.int (a : Int))] s ⟨[], l.drop a, rfl, rfl, rfl, by simp, rfl⟩
  have e : spanD (l.drop a) = (p, r) := by rw [hp]; exact span_app p r hd hn
  have sl : ∀ s : S, slD (.str (tx l)) (some (a : Int)) (some ((a + p.length : Nat) : Int)) s = .ok (.str (tx p)) s := fun s => by
    rw [sl_tx h, hp, Nat.add_sub_cancel_left, List.take_left]
  rw [e]
  unfold F__digits_at m__digits_at
  simp! only [e1, sl]
theorem run_integer {ds : List Nat} {most n : Nat} (hd : ∀ c ∈ ds, isDg c = true) (h : intL ds most = some n) (hm : most ≤ 640) : F__integer [.str (tx ds), .int (most : Int)] s = .ok (.int (n : Int)) s := by
  unfold intL at h
  split at h
  · rename_i hc
    cases h
    obtain ⟨⟨h1, h2⟩, h3⟩ := hc
    obtain ⟨q, hq⟩ : ∃ q : Int, q = (ds.length : Int) := ⟨_, rfl⟩
    have ln : ∀ s : S, lenD (.str (tx ds)) s = .ok (.int q) s := fun s => by rw [hq]; exact len_tx (by omega)
    have d1 : decide ((1 : Int) ≤ q) = true := decide_eq_true (by omega)
    have d2 : decide (q ≤ (most : Int)) = true := decide_eq_true (by omega)
    clear hq
    have it : ∀ s : S, intSD (.str (tx ds)) s = .ok (.int (NumText.digitsVal ds : Nat)) s := fun s => int_tx hd h1 (by omega)
    cases ds with
    | nil => exact absurd h1 (by decide)
    | cons c r =>
      have ix : ∀ s : S, ixD (.str (tx (c :: r))) (.int 0) s = .ok (.str (tx [c])) s := fun s => ix_tx (k := 0) (by omega) rfl
      by_cases hc : c = 48
      · subst hc
        have hr : r = [] := by
          cases r with
          | nil => rfl
          | cons x r => exact absurd ⟨rfl, by simp⟩ h3
        subst hr
        have d3 : decide (([48] : List Nat) = [48]) = true := by decide
        unfold F__integer m__integer
        simp! only [ln, d1, d2, ix, lit_0, eq_tx, ne_tx, d3, it]
      · have d3 : decide (tx [c] = tx [48]) = false := dtx (by simpa using hc)
        unfold F__integer m__integer
        simp! only [ln, d1, d2, ix, lit_0, eq_tx, d3, it]
  · cases h
/-! ### things -/
/-- a reader of things that runs: what it answers for a text from a place on -/
def ReadsT (F : List D → M D) (l : List Nat) (d : Nat) (pt : List Nat → Option (Thg × List Nat)) : Prop := ∀ (a : Nat) (t : Thg) (r : List Nat) (s : S), a ≤ l.length → pt (l.drop a) = some (t, r) → ∃ e : Nat, e ≤ l.length ∧ l.drop e = r ∧ a < e ∧ F [.str (tx l), .int (a : Int), .int (d : Int)] s = .ok (.tup [tD t, .int (e : Int)]) s
@[reducible] noncomputable def TBc : PL.Env → M Bool := (tB (binM eqD (varM 4) (cM (.str ","))))
@[reducible] noncomputable def TBb (R__thing_at : List D → M D) : PL.Env → M Out := (seqS (asgS (callM (lenM 3 R__thing_at) (consA (varM 0) (consA (varM 1) (consA (varM 2) nilA)))) (gTupM 2 (gConsM (gNm 5) (gConsM (gNm 6) gNilM))))
    (seqS (dropS (methM appendD (varM 3) (consA (varM 5) nilA)))
    (seqS (setS 4 (slM (varM 0) (inPt (varM 6)) (inPt (binM addD (varM 6) (cM (.int 1))))))
    (setS 1 (binM addD (varM 6) (cM (.int 1)))))))
theorem run_parts {F : List D → M D} {l : List Nat} {d : Nat} {pt : List Nat → Option (Thg × List Nat)} (hl : l.length ≤ 100000) (hp : ReadsT F l d pt) : ∀ (f a : Nat) (ts : List Thg) (r : List Nat) (acc : List D) (x5 x6 : Option D) (s : S), a ≤ l.length → acc.length + (l.length - a) ≤ 100000 → pParts pt f (l.drop a) = some (ts, r) →
    ∃ (e : Nat) (y5 y6 : Option D), e ≤ l.length ∧ l.drop e = r ∧ a < e ∧ whileS TBc (TBb F) [some (.str (tx l)), some (.int (a : Int)), some (.int (d : Int)), some (.ptr s.length), some (.str (tx [44])), x5, x6] (s ++ [.lst acc]) = .ok (.nx [some (.str (tx l)), some (.int (e : Int)), some (.int (d : Int)), some (.ptr s.length), some (.str (tx [41])), y5, y6]) (s ++ [.lst (acc ++ ts.map tD)])
  | 0, _, _, _, _, _, _, _, _, _, h => by cases h
  | f + 1, a, ts, r, acc, x5, x6, s, ha, hz, h => by
    unfold pParts at h
    split at h
    · cases h
    · rename_i t r1 e1
      obtain ⟨e, he, hd, hlt, hr⟩ := hp a t r1 (s ++ [.lst acc]) ha e1
      have ca : ∀ s2, TBc [some (.str (tx l)), some (.int (a : Int)), some (.int (d : Int)), some (.ptr s.length), some (.str (tx [44])), x5, x6] s2 = .ok true s2 := fun s2 => by
        simp! only [TBc, lit_k]
      have body : ∀ (c : Nat) (r2 : List Nat), r1 = c :: r2 → TBb F [some (.str (tx l)), some (.int (a : Int)), some (.int (d : Int)), some (.ptr s.length), some (.str (tx [44])), x5, x6] (s ++ [.lst acc]) = .ok (.nx [some (.str (tx l)), some (.int ((e + 1 : Nat) : Int)), some (.int (d : Int)), some (.ptr s.length), some (.str (tx [c])), some (tD t), some (.int (e : Int))]) (s ++ [.lst (acc ++ [tD t])]) := fun c r2 ec => by
        have ap : (methM appendD (varM 3) (consA (varM 5) nilA)) [some (.str (tx l)), some (.int (a : Int)), some (.int (d : Int)), some (.ptr s.length), some (.str (tx [44])), some (tD t), some (.int (e : Int))] (s ++ [.lst acc]) = .ok .non (s ++ [.lst (acc ++ [tD t])]) := app_end rfl rfl (by omega)
        have sl : ∀ s : S, slD (.str (tx l)) (some (e : Int)) (some ((e : Int) + 1)) s = .ok (.str (tx [c])) s := fun s => by
          rw [sl1 hl, hd, ec]
          rfl
        have ce : ((e + 1 : Nat) : Int) = (e : Int) + 1 := by omega
        rw [ce]
        simp! only [TBb, hr, ap, sl]
      split at h
      · rename_i r2
        have b2 := body 44 r2 rfl
        have hle := drop_le hd
        have hd2 : l.drop (e + 1) = r2 := drop_more (p := [44]) hd
        cases q : pParts pt f r2 with
        | none => rw [q] at h; cases h
        | some w =>
          rw [q] at h
          cases h
          obtain ⟨e', y5, y6, k1, k2, k3, k4⟩ := run_parts hl hp f (e + 1) w.1 w.2 (acc ++ [tD t]) (some (tD t)) (some (.int (e : Int))) s (by omega) (by rw [List.length_append]; show acc.length + 1 + _ ≤ _; omega) (by rw [hd2, q])
          refine ⟨e', y5, y6, k1, k2, by omega, ?_⟩
          have := while_go (ca _) b2 k4
          rw [this, List.append_assoc]
          rfl
      · rename_i r2
        have b2 := body 41 r2 rfl
        have hle := drop_le hd
        cases h
        refine ⟨e + 1, _, _, by omega, drop_more (p := [41]) hd, by omega, while_go (ca _) b2 (while_end ?_)⟩
        have d4 : decide (tx [41] = tx [44]) = false := dtx (by decide)
        simp! only [TBc, lit_k, eq_tx, d4]
      · cases h
theorem run_num {R1 R2 : List D → M D} {l : List Nat} {a d c : Nat} {r0 : List Nat} {t : Thg} {r : List Nat} (hl : l.length ≤ 100000) (el : l.drop a = c :: r0) (h40 : c ≠ 40) (h45 : c ≠ 45) (h : pNum (l.drop a) = some (t, r)) : ∃ e : Nat, e ≤ l.length ∧ l.drop e = r ∧ a < e ∧ fnF 7 (m__thing_at R1 R2) [.str (tx l), .int (a : Int), .int (d : Int)] s = .ok (.tup [tD t, .int (e : Int)]) s := by
  have hle := drop_le el
  have hspan := span_eq (l.drop a)
  have hdg := span_dg (l.drop a)
  obtain ⟨e0, he0⟩ : ∃ e0 : Nat, e0 = a + (spanD (l.drop a)).1.length := ⟨_, rfl⟩
  have da : ∀ s : S, F__digits_at [.str (tx l), .int (a : Int)] s = .ok (.tup [.str (tx (spanD (l.drop a)).1), .int (e0 : Int)]) s := fun s => by rw [he0]; exact run_digits_at hl
  have hd0 : l.drop e0 = (spanD (l.drop a)).2 := by rw [he0]; exact drop_more hspan
  have hln : (spanD (l.drop a)).1.length + (spanD (l.drop a)).2.length = l.length - a := by
    have := congrArg List.length hspan
    rw [List.length_append, List.length_drop] at this
    omega
  have he : e0 ≤ l.length := by omega
  have s0 : ∀ s : S, slD (.str (tx l)) (some (a : Int)) (some ((a : Int) + 1)) s = .ok (.str (tx [c])) s := fun s => by
    rw [sl1 hl, el]
    rfl
  have s1 : ∀ s : S, slD (.str (tx l)) (some (e0 : Int)) (some ((e0 : Int) + 1)) s = .ok (.str (tx ((spanD (l.drop a)).2.take 1))) s := fun s => by
    rw [sl1 hl, hd0]
  have n40 : decide (tx [c] = tx [40]) = false := dtx (by simpa using h40)
  have n45 : decide (tx [c] = tx [45]) = false := dtx (by simpa using h45)
  unfold pNum at h
  split at h
  · rename_i r2 e2
    cases ei : intL (spanD (l.drop a)).1 2 with
    | none => rw [ei] at h; cases h
    | some n =>
      rw [ei] at h
      simp only [] at h
      split at h
      · rename_i hn
        cases h
        have ri : ∀ s : S, F__integer [.str (tx (spanD (l.drop a)).1), .int 2] s = .ok (.int (n : Int)) s := fun s => run_integer (most := 2) hdg ei (by decide)
        have l1 := drop_le (hd0.trans e2)
        have hd2 : l.drop (e0 + 1) = r2 := drop_more (p := [58]) (hd0.trans e2)
        have s2 : ∀ s : S, slD (.str (tx l)) (some ((e0 : Int) + 1)) (some ((e0 : Int) + 1 + (n : Int))) s = .ok (.str (tx (r2.take n))) s := fun s => by
          have := sl_tx (s := s) (a := e0 + 1) (b := e0 + 1 + n) hl
          rw [hd2, Nat.add_sub_cancel_left] at this
          exact this
        have hge : decide ((l.length : Int) < (e0 : Int) + 1 + (n : Int)) = false := decide_eq_false (by omega)
        have ln : ∀ s : S, lenD (.str (tx l)) s = .ok (.int (l.length : Int)) s := fun s => len_tx hl
        have ce : ((e0 + 1 + n : Nat) : Int) = (e0 : Int) + 1 + (n : Int) := by omega
        have t1 : ∀ (x : Nat) (y : List Nat), (x :: y).take 1 = [x] := fun x y => rfl
        refine ⟨e0 + 1 + n, by omega, ?_, by omega, ?_⟩
        · rw [← List.drop_drop, hd2]
        · rw [tD_txt, ce]
          rw [e2] at s1
          unfold m__thing_at
          simp! only [s0, lit_o, lit_m, lit_d, n40, n45, da, s1, t1, ne_tx, ri, ln, hge, s2]
      · cases h
  · rename_i hno
    cases ei : intL (spanD (l.drop a)).1 200 with
    | none => rw [ei] at h; cases h
    | some n =>
      rw [ei] at h
      cases h
      have ri : ∀ s : S, F__integer [.str (tx (spanD (l.drop a)).1), .int 200] s = .ok (.int (n : Int)) s := fun s => run_integer (most := 200) hdg ei (by decide)
      have h1 : 1 ≤ (spanD (l.drop a)).1.length := by
        unfold intL at ei
        split at ei
        · rename_i q; exact q.1.1
        · cases ei
      have n58 : decide ((spanD (l.drop a)).2.take 1 = [58]) = false := decide_eq_false fun z => by
        cases q : (spanD (l.drop a)).2 with
        | nil => rw [q] at z; cases z
        | cons x y =>
          rw [q] at z
          have : x = 58 := by simpa using z
          subst this
          exact hno y q
      refine ⟨e0, he, hd0, by omega, ?_⟩
      rw [tD_int]
      unfold m__thing_at
      simp! only [s0, lit_o, lit_m, lit_d, n40, n45, da, s1, ne_tx, n58, ri]
theorem run_thing {l : List Nat} (hl : l.length ≤ 100000) : ∀ j : Nat, (∀ d, ReadsT (FF__thing_at j) l d (pThing j d)) ∧ (∀ d, ReadsT (FF__tuple_at j) l d (pTuple j d))
  | 0 => ⟨fun d a t r s _ h => by simp [pThing] at h, fun d a t r s _ h => by simp [pTuple] at h⟩
  | j + 1 => by
    obtain ⟨ih1, ih2⟩ := run_thing hl j
    constructor
    · intro d a t r s ha h
      have da : ∀ s : S, F__digits_at [.str (tx l), .int (a : Int)] s = .ok (.tup [.str (tx (spanD (l.drop a)).1), .int ((a + (spanD (l.drop a)).1.length : Nat) : Int)]) s := fun s => run_digits_at hl
      have sa : ∀ s : S, slD (.str (tx l)) (some (a : Int)) (some ((a : Int) + 1)) s = .ok (.str (tx ((l.drop a).take 1))) s := fun s => sl1 hl
      rw [pThing_succ] at h
      have hspan := span_eq (l.drop a)
      have hdg := span_dg (l.drop a)
      cases el : l.drop a with
      | nil =>
        rw [el] at h
        cases h
      | cons c r0 =>
        have hle := drop_le el
        by_cases h40 : c = 40
        · subst h40
          rw [el] at h
          simp only [] at h
          have hd2 : l.drop (a + 1) = r0 := drop_more (p := [40]) el
          rw [← hd2] at h
          obtain ⟨e, k1, k2, k3, k4⟩ := ih2 (d + 1) (a + 1) t r s (by omega) h
          refine ⟨e, k1, k2, by omega, ?_⟩
          have c1 : ((a + 1 : Nat) : Int) = (a : Int) + 1 := by omega
          have c2 : ((d + 1 : Nat) : Int) = (d : Int) + 1 := by omega
          rw [c1, c2] at k4
          have et : (40 :: r0).take 1 = [40] := rfl
          have d1 : decide (([40] : List Nat) = [40]) = true := by decide
          have cl : Cl s.length (D.tup [tD t, .int (e : Int)]) := .tup (.cons (tD_cl _ t) (.cons (.int _) .nil))
          rw [el] at sa
          show fnF 7 (m__thing_at (FF__thing_at j) (FF__tuple_at j)) _ s = _
          unfold m__thing_at
          simp! only [sa, et, lit_o, eq_tx, d1, k4, tD_cl]
        · by_cases h45 : c = 45
          · subst h45
            rw [el] at h
            simp only [] at h
            split at h
            · cases h
            · rename_i h48
              cases ei : intL (spanD r0).1 200 with
              | none => rw [ei] at h; cases h
              | some n =>
                rw [ei] at h
                cases h
                have hd2 : l.drop (a + 1) = r0 := drop_more (p := [45]) el
                obtain ⟨e0, he0⟩ : ∃ e0 : Nat, e0 = a + 1 + (spanD r0).1.length := ⟨_, rfl⟩
                have d1 : ∀ s : S, F__digits_at [.str (tx l), .int ((a : Int) + 1)] s = .ok (.tup [.str (tx (spanD r0).1), .int (e0 : Int)]) s := fun s => by
                  have := run_digits_at (s := s) (l := l) (a := a + 1) hl
                  rw [hd2, ← he0] at this
                  exact this
                have sp2 := span_eq r0
                have hd0 : l.drop e0 = (spanD r0).2 := by rw [he0]; exact drop_more (hd2.trans sp2)
                have hln : (spanD r0).1.length + (spanD r0).2.length = r0.length := by
                  have := congrArg List.length sp2
                  rw [List.length_append] at this
                  omega
                have ri : ∀ s : S, F__integer [.str (tx (spanD r0).1), .int 200] s = .ok (.int (n : Int)) s := fun s => run_integer (most := 200) (span_dg r0) ei (by decide)
                have n48 : decide (tx (spanD r0).1 = tx [48]) = false := dtx h48
                have n40 : decide (tx [45] = tx [40]) = false := dtx (by decide)
                have et : (45 :: r0).take 1 = [45] := rfl
                rw [el] at sa
                refine ⟨e0, by omega, hd0, by omega, ?_⟩
                rw [tD_int]
                show fnF 7 (m__thing_at (FF__thing_at j) (FF__tuple_at j)) _ s = _
                unfold m__thing_at
                simp! only [sa, et, lit_o, lit_m, lit_0, n40, n48, d1, ri]
          · have hp : pNum (l.drop a) = some (t, r) := by
              rw [el] at h ⊢
              split at h
              · rename_i q; injection q with q _; exact absurd q h40
              · rename_i q; injection q with q _; exact absurd q h45
              · exact h
            exact run_num hl el h40 h45 hp
    · intro d a t r s ha h
      have sa : ∀ s : S, slD (.str (tx l)) (some (a : Int)) (some ((a : Int) + 1)) s = .ok (.str (tx ((l.drop a).take 1))) s := fun s => sl1 hl
      rw [pTuple_succ] at h
      split at h
      · cases h
      · rename_i h40
        have hgt : decide ((40 : Int) < (d : Int)) = false := decide_eq_false (by omega)
        split at h
        · rename_i r0 el
          cases h
          have hle := drop_le el
          have et : (41 :: r).take 1 = [41] := rfl
          rw [el] at sa
          refine ⟨a + 1, by omega, drop_more (p := [41]) el, by omega, ?_⟩
          have ce : ((a + 1 : Nat) : Int) = (a : Int) + 1 := by omega
          rw [tD_tup, ce]
          show fnF 7 (m__tuple_at (FF__thing_at j) (FF__tuple_at j)) _ s = _
          unfold m__tuple_at
          simp! only [hgt, sa, et, lit_c]
        · rename_i hno
          have n41 : decide (tx ((l.drop a).take 1) = tx [41]) = false := dtx fun z => by
            cases q : l.drop a with
            | nil => rw [q] at z; cases z
            | cons x y =>
              rw [q] at z
              have : x = 41 := by simpa using z
              subst this
              exact hno y q
          cases q : pParts (pThing j d) ((l.drop a).length + 1) (l.drop a) with
          | none => rw [q] at h; cases h
          | some w =>
            rw [q] at h
            cases h
            obtain ⟨e, y5, y6, k1, k2, k3, k4⟩ := run_parts hl (ih1 d) _ a w.1 w.2 [] none none s ha (by show 0 + _ ≤ _; omega) q
            refine ⟨e, k1, k2, k3, ?_⟩
            rw [List.nil_append] at k4
            have hw : whileS TBc (TBb (FF__thing_at j)) [some (.str (tx l)), some (.int (a : Int)), some (.int (d : Int)), some (.ptr s.length), some (.str ","), none, none] (s ++ [.lst []]) = .ok (.nx [some (.str (tx l)), some (.int (e : Int)), some (.int (d : Int)), some (.ptr s.length), some (.str (tx [41])), y5, y6]) (s ++ [.lst (w.1.map tD)]) := by
              rw [lit_k]
              exact k4
            have tp : tupleD (.ptr s.length) (s ++ [Cell.lst (w.1.map tD)]) = .ok (.tup (w.1.map tD)) (s ++ [Cell.lst (w.1.map tD)]) := by
              have hh : (s ++ [Cell.lst (w.1.map tD)])[s.length]? = some (.lst (w.1.map tD)) := by simp
              show (match (s ++ [Cell.lst (w.1.map tD)])[s.length]? with
                | some (.lst ds) => R.ok (D.tup ds) (s ++ [Cell.lst (w.1.map tD)])
                | _ => .stuck) = _
              rw [hh]
            have cl : Cl s.length (D.tup [.tup (w.1.map tD), .int (e : Int)]) := .tup (.cons (.tup (by rw [← tDs_map]; exact tDs_cl _ _)) (.cons (.int _) .nil))
            have key : (m__tuple_at (FF__thing_at j) (FF__tuple_at j) (startE 7 [.str (tx l), .int (a : Int), .int (d : Int)]) s).on (fun o s1 => outM o s1) = .ok (.tup [.tup (w.1.map tD), .int (e : Int)]) (s ++ [.lst (w.1.map tD)]) := by
              unfold m__tuple_at
              simp! only [hgt, sa, lit_c, n41, hw, tp, ne_tx]
            rw [tD_tup]
            show fnF 7 (m__tuple_at (FF__thing_at j) (FF__tuple_at j)) _ s = _
            rw [fnF_run, key]
            exact cut_eqA cl
theorem run_read {l : List Nat} {t : Thg} (hl : l.length ≤ 100000) (h : pThing 24 0 l = some (t, [])) : F_read [.str (tx l)] s = .ok (tD t) s := by
  obtain ⟨e, k1, k2, k3, k4⟩ := (run_thing hl 24).1 0 0 t [] s (Nat.zero_le _) h
  have ee : e = l.length := by
    have := congrArg List.length k2
    rw [List.length_drop] at this
    simp at this
    omega
  subst ee
  have hr : FF__thing_at 24 [.str (tx l), .int 0, .int 0] s = .ok (.tup [tD t, .int (l.length : Int)]) s := k4
  have ln : ∀ s : S, lenD (.str (tx l)) s = .ok (.int (l.length : Int)) s := fun s => len_tx hl
  have cl : Cl s.length (tD t) := tD_cl _ t
  unfold F_read m_read
  simp! only [hr, ln, cl]
end

/-! the law's things -/
open TX
open TL (numL tl)
section
variable {s : S}
theorem coll_drawG {α : Type} {enc : α → D} {g : D → PL.Env → M PL.Env} {e : PL.Env → M D} {env0 : PL.Env} {r : S} {P : Cell → Prop} {Q : α → Prop} (turn : ∀ (c : Cell), P c → ∀ d : D, ∃ (q : α) (c' : Cell), turnC g yesT e env0 d (c :: r) = .ok (enc q) (c' :: r) ∧ P c' ∧ Q q) : ∀ (items l : List D) (c : Cell), P c → ∃ (qs : List α) (c' : Cell), collM ⟨items, none⟩ g yesT e env0 l (c :: r) = .ok (qs.map enc) (c' :: r) ∧ P c' ∧ qs.length = l.length ∧ ∀ q ∈ qs, Q q
  | items, [], c, h => ⟨[], c, by rw [coll_nil, guard_none]; rfl, h, rfl, fun _ h => nomatch h⟩
  | items, d :: l, c, h => by
    obtain ⟨q, c1, h1, P1, Q1⟩ := turn c h d
    obtain ⟨qs, c2, e2, P2, hl, hq⟩ := coll_drawG turn items l c1 P1
    refine ⟨q :: qs, c2, ?_, P2, by rw [List.length_cons, List.length_cons, hl], fun x hx => ?_⟩
    · unfold turnC at h1
      rw [coll_cons, guard_none, on_ok]
      cases eg : g d env0 (c :: r) with
      | stuck => rw [eg] at h1; cases h1
      | exc c s1 => rw [eg] at h1; cases h1
      | ok env s1 =>
        rw [eg, on_ok, yesT_run, on_ok, if_pos rfl] at h1
        rw [on_ok, yesT_run, on_ok, if_pos rfl, h1, on_ok, e2]
        rfl
    · rcases List.mem_cons.mp hx with rfl | hx
      · exact Q1
      · exact hq x hx
/-- a comprehension over range(a draw) -/
theorem comp_draw {α : Type} {enc : α → D} {g : D → PL.Env → M PL.Env} {e : PL.Env → M D} {vs : List Nat} {env : PL.Env} {ma : PL.Env → M (List D)} {r : S} {Q : α → Prop} {c c1 : Cell} {n : Nat} (h0 : ma env (c :: r) = .ok [.int (n : Int)] (c1 :: r)) (P1 : Pot c1) (hn : n ≤ 100000) (turn : ∀ (c : Cell), Pot c → ∀ d : D, ∃ (q : α) (c' : Cell), turnC g yesT e (wipeE env vs) d (c :: r) = .ok (enc q) (c' :: r) ∧ Pot c' ∧ Q q) : ∃ (qs : List α) (c' : Cell), compF (srcA rng1D ma) g yesT e vs env (c :: r) = .ok (.vls (qs.map enc)) (c' :: r) ∧ Pot c' ∧ qs.length = n ∧ ∀ q ∈ qs, Q q := by
  obtain ⟨qs, c', e1, P', hl, hq⟩ := coll_drawG (P := Pot) turn ((List.range n).map fun (i : Nat) => D.int (i : Int)) ((List.range n).map fun (i : Nat) => D.int (i : Int)) c1 P1
  have ln : ((List.range n).map fun (i : Nat) => D.int (i : Int)).length = n := by rw [List.length_map, List.length_range]
  rw [ln] at hl
  refine ⟨qs, c', ?_, P', hl, hq⟩
  have sz : szM ((List.range n).map fun (i : Nat) => D.int (i : Int)).length (c1 :: r) = .ok () (c1 :: r) := szM_run (by rw [ln]; omega)
  rw [compF_run, srcA_run, h0, on_ok, rng1_nat (by omega), on_ok]
  simp only []
  rw [sz, on_ok, e1, on_ok]
/-! ### how long, how deep -/
def Wd : Nat → Nat
  | 0 => 64
  | d + 1 => 4 * Wd d + 8
theorem wd_64 : ∀ d : Nat, 64 ≤ Wd d
  | 0 => Nat.le_refl _
  | d + 1 => by
    have := wd_64 d
    unfold Wd
    omega
structure Sm (d : Nat) (t : Thg) : Prop where
  ok : okT t = true
  dep : dep t ≤ d
  len : (wr t).length ≤ Wd d
theorem wrs_le {k : Nat} : ∀ ts : List Thg, (∀ t ∈ ts, (wr t).length ≤ k) → (wrs ts).length ≤ ts.length * (k + 1)
  | [], _ => by rw [wrs_nil]; exact Nat.zero_le _
  | [t], h => by
    rw [wrs_cons, wrm_nil, List.append_nil]
    have := h t List.mem_cons_self
    show _ ≤ 1 * (k + 1)
    omega
  | t :: t2 :: ts, h => by
    have e := wrs_cons2 t t2 ts []
    rw [List.append_nil, List.append_nil] at e
    have h1 := h t List.mem_cons_self
    have h2 := wrs_le (t2 :: ts) fun x hx => h x (List.mem_cons_of_mem _ hx)
    rw [e, List.length_append, List.length_cons, List.length_cons (a := t), Nat.add_mul, Nat.one_mul]
    omega
theorem okTs_of : ∀ {ts : List Thg}, (∀ t ∈ ts, okT t = true) → okTs ts = true
  | [], _ => by unfold okTs; rfl
  | t :: ts, h => by
    unfold okTs
    rw [h t List.mem_cons_self, okTs_of fun x hx => h x (List.mem_cons_of_mem _ hx)]
    rfl
theorem deps_of {k : Nat} : ∀ {ts : List Thg}, (∀ t ∈ ts, dep t ≤ k) → deps ts ≤ k
  | [], _ => by unfold deps; exact Nat.zero_le _
  | t :: ts, h => by
    have := h t List.mem_cons_self
    have := deps_of fun x hx => h x (List.mem_cons_of_mem _ hx)
    unfold deps
    omega
def T60 : Int := 10 ^ 60
theorem t60_pos : 0 < T60 := by decide +kernel
theorem t60_bt : Bt 9000 T60 := Nat.lt_trans (show T60.natAbs < 2 ^ 200 by decide +kernel) (Nat.pow_lt_pow_right (by decide) (by decide))
theorem p60 : powD (.int 10) (.int 60) s = .ok (.int T60) s := by
  rw [powD_ok (by decide)]
  rfl
theorem sm_int {i : Int} (d : Nat) (h : -T60 < i) (h2 : i < T60) : Sm d (.int i) := by
  have hn : i.natAbs < 10 ^ 60 := by
    have : T60 = ((10 ^ 60 : Nat) : Int) := by decide +kernel
    omega
  have hl : (numL i.natAbs).length ≤ 60 := TL.numL_len (by decide) hn
  refine ⟨?_, ?_, ?_⟩
  · unfold okT
    exact decide_eq_true (by omega)
  · show TX.dep (.int i) ≤ d
    unfold TX.dep
    exact Nat.zero_le _
  · have := wd_64 d
    rw [wr_int]
    unfold numZ
    split
    · rw [List.length_cons]; omega
    · omega
theorem sm_txt {l : List Nat} (d : Nat) (h : l.length ≤ 12) : Sm d (.txt l) := by
  have hl : (numL l.length).length ≤ 2 := TL.numL_len (by decide) (by omega)
  refine ⟨?_, ?_, ?_⟩
  · unfold okT
    exact decide_eq_true (by omega)
  · show TX.dep (.txt l) ≤ d
    unfold TX.dep
    exact Nat.zero_le _
  · have := wd_64 d
    rw [wr_txt, List.length_append, List.length_cons]
    omega
theorem sm_tup {ts : List Thg} {d : Nat} (h : ∀ t ∈ ts, Sm d t) (h4 : ts.length ≤ 4) : Sm (d + 1) (.tup ts) := by
  refine ⟨?_, ?_, ?_⟩
  · unfold okT
    exact okTs_of fun t ht => (h t ht).ok
  · show TX.dep (.tup ts) ≤ d + 1
    unfold TX.dep
    have := deps_of fun t ht => (h t ht).dep
    omega
  · have e := wrs_le ts fun t ht => (h t ht).len
    have e2 : ts.length * (Wd d + 1) ≤ 4 * (Wd d + 1) := Nat.mul_le_mul_right _ h4
    rw [tup_len]
    unfold Wd
    omega
def ALPH : List Nat := [48, 49, 50, 51, 58, 44, 40, 41, 45, 97, 32]
theorem lit_a : ("0123:,()-a " : Str) = tx ALPH := by decide +kernel
/-- a comprehension's parts, joined with nothing between -/
theorem one_len : ∀ ls : List (List Nat), (∀ l ∈ ls, l.length = 1) → ls.flatten.length = ls.length ∧ (ls.map (·.length)).sum = ls.length
  | [], _ => ⟨rfl, rfl⟩
  | l :: ls, h => by
    obtain ⟨h1, h2⟩ := one_len ls fun x hx => h x (List.mem_cons_of_mem _ hx)
    have := h l List.mem_cons_self
    constructor
    · rw [List.flatten_cons, List.length_append, h1, List.length_cons]; omega
    · rw [List.map_cons, List.sum_cons, h2, List.length_cons]; omega
theorem draw_nat {c : Cell} {r : S} {l : Int} (P : Pot c) (hl : 0 < l) (hb : Bt 9000 l) : ∃ (v : Nat) (c' : Cell), F__law_next [.ptr 0, .int l] (c :: r) = .ok (.int (v : Int)) (c' :: r) ∧ (v : Int) < l ∧ Pot c' := by
  have rn := run_next (r := r) P hl hb
  obtain ⟨v, P1⟩ := next_ok P hl
  refine ⟨(nextV c l).toNat, nextC c l, ?_, by omega, P1⟩
  rw [rn, Int.toNat_of_nonneg v.1]
theorem bt_small {l : Int} (h : l.natAbs < 2 ^ 20) : Bt 9000 l := Bt.mono (m := 20) h (by decide)
theorem run_lthing : ∀ (j d : Nat) (c : Cell) (r : S), d < j → Pot c → ∃ (t : Thg) (c' : Cell), FF__law_thing j [.ptr 0, .int (d : Int)] (c :: r) = .ok (tD t) (c' :: r) ∧ Pot c' ∧ Sm d t
  | 0, _, _, _, h, _ => absurd h (Nat.not_lt_zero _)
  | j + 1, d, c, r, h, P => by
    obtain ⟨k, c1, r1, k6, P1⟩ := draw_nat (r := r) P (l := 6) (by decide) (bt_small (by decide))
    have wrap : ∀ (t : Thg) (c' : Cell), Pot c' → (m__law_thing (FF__law_thing j) (startE 4 [.ptr 0, .int (d : Int)]) (c :: r)).on (fun o s1 => outM o s1) = .ok (tD t) (c' :: r) → FF__law_thing (j + 1) [.ptr 0, .int (d : Int)] (c :: r) = .ok (tD t) (c' :: r) := fun t c' P' e => by
      show fnF 4 (m__law_thing (FF__law_thing j)) _ (c :: r) = _
      rw [fnF_run, e]
      exact cut_hd0 (P'.cl _) (tD_cl _ t)
    by_cases k0 : (k : Int) = 0
    · obtain ⟨a, c2, r2, ha, P2⟩ := draw_nat (r := r) P1 (l := T60) t60_pos t60_bt
      obtain ⟨b, c3, r3, hb, P3⟩ := draw_nat (r := r) P2 (l := T60) t60_pos t60_bt
      refine ⟨.int ((a : Int) - (b : Int)), c3, wrap _ _ P3 ?_, P3, sm_int d (by omega) (by omega)⟩
      have d0 : decide ((k : Int) = 0) = true := decide_eq_true k0
      rw [tD_int]
      unfold m__law_thing
      simp! only [r1, d0, p60, r2, r3]
    · have d0 : decide ((k : Int) = 0) = false := decide_eq_false k0
      by_cases k1 : (k : Int) = 1 ∨ (d : Int) = 0
      · obtain ⟨a, c2, r2, ha, P2⟩ := draw_nat (r := r) P1 (l := 30) (by decide) (bt_small (by decide))
        have h60 : (100 : Int) < T60 := by decide +kernel
        refine ⟨.int ((a : Int) - 9), c2, wrap _ _ P2 ?_, P2, sm_int d (by omega) (by omega)⟩
        have d1 : (decide ((k : Int) = 1) || decide ((d : Int) = 0)) = true := by
          rw [Bool.or_eq_true, decide_eq_true_eq, decide_eq_true_eq]
          exact k1
        rw [tD_int]
        unfold m__law_thing
        simp! only [r1, d0, d1, r2]
      · have d1 : decide ((k : Int) = 1) = false := decide_eq_false fun z => k1 (.inl z)
        have d2 : decide ((d : Int) = 0) = false := decide_eq_false fun z => k1 (.inr z)
        by_cases k4 : (k : Int) < 4
        · have d4 : decide ((k : Int) < 4) = true := decide_eq_true k4
          obtain ⟨n, c2, r2, hn, P2⟩ := draw_nat (r := r) P1 (l := 13) (by decide) (bt_small (by decide))
          obtain ⟨ls, c3, e3, P3, hl, h1⟩ := comp_draw (enc := fun l => D.str (tx l)) (g := gNm 3) (e := binM ixD (cM (.str "0123:,()-a ")) (callM (lenM 2 F__law_next) (consA (varM 0) (consA (cM (.int 11)) nilA)))) (vs := [3]) (env := [some (.ptr 0), some (.int (d : Int)), some (.int (k : Int)), none]) (ma := consA (callM (lenM 2 F__law_next) (consA (varM 0) (consA (cM (.int 13)) nilA))) nilA) (r := r) (Q := fun l => l.length = 1) (c := c1) (c1 := c2) (n := n) (by simp! only [r2]) P2 (by omega) (fun c P d => by
            obtain ⟨v, c', rv, hv, P'⟩ := draw_nat (r := r) P (l := 11) (by decide) (bt_small (by decide))
            have hlt : v < ALPH.length := by show v < 11; omega
            have ix : ∀ s : S, ixD (.str (tx ALPH)) (.int (v : Int)) s = .ok (.str (tx [ALPH[v]])) s := fun s => ix_tx (by decide) (List.getElem?_eq_getElem hlt)
            refine ⟨[ALPH[v]], c', ?_, P', rfl⟩
            unfold turnC
            simp! only [wipeE, rv, lit_a, ix])
          obtain ⟨f1, f2⟩ := one_len ls h1
          have hj : (joinM (cM (.str "")) (consA (compF (srcA rng1D (consA (callM (lenM 2 F__law_next) (consA (varM 0) (consA (cM (.int 13)) nilA))) nilA)) (gNm 3) yesT (binM ixD (cM (.str "0123:,()-a ")) (callM (lenM 2 F__law_next) (consA (varM 0) (consA (cM (.int 11)) nilA)))) [3]) nilA)) [some (.ptr 0), some (.int (d : Int)), some (.int (k : Int)), none] (c1 :: r) = .ok (.str (tx ls.flatten)) (c3 :: r) := by
            have e := join_run (s1 := c1 :: r) (s2 := c3 :: r) (a := []) (ys := ls) (mo := cM (.str "")) (ma := consA (compF (srcA rng1D (consA (callM (lenM 2 F__law_next) (consA (varM 0) (consA (cM (.int 13)) nilA))) nilA)) (gNm 3) yesT (binM ixD (cM (.str "0123:,()-a ")) (callM (lenM 2 F__law_next) (consA (varM 0) (consA (cM (.int 11)) nilA)))) [3]) nilA) (env := [some (.ptr 0), some (.int (d : Int)), some (.int (k : Int)), none]) rfl (by rw [consA_run, e3, on_ok, nilA_run, on_ok]) (by rw [f2]; show _ + ls.length * 0 ≤ _; omega)
            rw [e, TX.join_nil]
          refine ⟨.txt ls.flatten, c3, wrap _ _ P3 ?_, P3, sm_txt d (by omega)⟩
          rw [tD_txt]
          unfold m__law_thing
          simp! only [r1, d0, d1, d2, d4, hj]
        · have d4 : decide ((k : Int) < 4) = false := decide_eq_false k4
          obtain ⟨n, c2, r2, hn, P2⟩ := draw_nat (r := r) P1 (l := 5) (by decide) (bt_small (by decide))
          have hd0 : d ≠ 0 := fun z => k1 (.inr (by omega))
          obtain ⟨d', rfl⟩ : ∃ d', d = d' + 1 := ⟨d - 1, by omega⟩
          have cd : ((d' + 1 : Nat) : Int) - 1 = (d' : Int) := by omega
          obtain ⟨ts, c3, e3, P3, hl, h1⟩ := comp_draw (enc := tD) (g := gNm 3) (e := callM (lenM 2 (FF__law_thing j)) (consA (varM 0) (consA (binM subD (varM 1) (cM (.int 1))) nilA))) (vs := [3]) (env := [some (.ptr 0), some (.int ((d' + 1 : Nat) : Int)), some (.int (k : Int)), none]) (ma := consA (callM (lenM 2 F__law_next) (consA (varM 0) (consA (cM (.int 5)) nilA))) nilA) (r := r) (Q := Sm d') (c := c1) (c1 := c2) (n := n) (by simp! only [r2]) P2 (by omega) (fun c P d => by
            obtain ⟨t, c', e, P', q⟩ := run_lthing j d' c r (by omega) P
            refine ⟨t, c', ?_, P', q⟩
            unfold turnC
            simp! only [wipeE, cd, e])
          refine ⟨.tup ts, c3, wrap _ _ P3 ?_, P3, sm_tup h1 (by omega)⟩
          rw [tD_tup]
          unfold m__law_thing
          simp! only [r1, d0, d1, d2, d4, e3]
end

/-! the law -/
open TX
open TL (numL tl)
section
variable {s : S}
theorem law_cut {m : PL.Env → M Out} {N : Nat} {ds : List D} (h : ∃ s', m (startE N ds) [] = .ok (.rt (.bl true)) s') : ∃ s1, fnF N m ds [] = .ok (.bl true) s1 := by
  obtain ⟨s', h⟩ := h
  refine ⟨[], ?_⟩
  rw [fnF_run, h, on_ok, outM_rt]
  exact cutR_ok ⟨Nat.zero_le _, fun i c hi _ => absurd hi (Nat.not_lt_zero _)⟩ (.bl true) List.take_zero
theorem stop_nil : TX.stop [] := fun c r' e => by cases e
/-- what is written and read -/
theorem run_b2 {t : Thg} {x0 x1 x2 x3 x5 : Option D} (ok : okT t = true) (hd : TX.dep t ≤ 11) (hl : (wr t).length ≤ 100000) : ∃ y5 : Option D, B_law_2 [x0, x1, x2, x3, some (tD t), x5] s = .ok (.nx [x0, x1, x2, x3, some (tD t), y5]) s := by
  have rb := read_back 24 t 0 [] (by omega) (by omega) ok stop_nil
  rw [List.append_nil] at rb
  have w := run_write 12 t s (by omega) ok hl
  have w2 := run_written 12 t s (by omega) ok hl
  have rr := run_read (s := s) hl rb
  have rs := run_same 12 t s (by omega) hl
  refine ⟨some (.str (tx (wr t))), ?_⟩
  simp! only [B_law_2, w, w2, ti_ss, ne_tx, rr, rs]
theorem p19 : powD (.int 10) (.int 19) s = .ok (.int 10000000000000000000) s := by
  rw [powD_ok (by decide)]
  rfl
def XL : List Nat := List.replicate 99 120
theorem xl_len : XL.length = 99 := by decide
theorem mul_xs : mulSD (.str "x") (.int 99) s = .ok (.str (tx (XL))) s := by
  have e : Txt.mul ("x" : Str) 99 = tx (XL) := by decide +kernel
  show (if 2 ≤ (99 : Int) ∧ (99 : Int) ≤ 100000 ∧ 0 < ("x" : Str).length ∧ ("x" : Str).length ≤ 100 then (Pure.pure (D.str (Txt.mul ("x" : Str) 99)) : M D) else stuck) s = _
  rw [if_pos (by decide +kernel), e]
  rfl
def T199 : Int := T60 * T60 * T60 * 10000000000000000000
theorem bt_big {i : Int} (h : i.natAbs < 2 ^ 1000) : Bt 400000 i := Bt.mono (m := 1000) h (by decide)
theorem mul1 : mulD (.int T60) (.int T60) s = .ok (.int (T60 * T60)) s := mulD_int (mulOk_b (bt_big (by decide +kernel)) (bt_big (by decide +kernel)))
theorem mul2 : mulD (.int (T60 * T60)) (.int T60) s = .ok (.int (T60 * T60 * T60)) s := mulD_int (mulOk_b (bt_big (by decide +kernel)) (bt_big (by decide +kernel)))
theorem mul3 : mulD (.int (T60 * T60 * T60)) (.int 10000000000000000000) s = .ok (.int T199) s := mulD_int (mulOk_b (bt_big (by decide +kernel)) (bt_big (by decide +kernel)))
theorem big_ok : okT (.int T199) = true ∧ TX.dep (.int T199) ≤ 11 ∧ (wr (.int T199)).length ≤ 100000 := by
  have hn : T199.natAbs < 10 ^ 200 := by decide +kernel
  have hl : (numL T199.natAbs).length ≤ 200 := TL.numL_len (by decide) hn
  refine ⟨?_, ?_, ?_⟩
  · unfold okT
    exact decide_eq_true hl
  · unfold TX.dep
    decide
  · rw [wr_int]
    unfold numZ
    split
    · rw [List.length_cons]; omega
    · omega
def XS : Thg := .tup [.txt (XL), .int (-1)]
theorem xs_ok : okT XS = true ∧ TX.dep XS ≤ 11 ∧ (wr XS).length ≤ 100000 := by
  have s1 := sm_int (i := -1) 0 (by decide +kernel) (by decide +kernel)
  have hl : (numL (XL).length).length ≤ 2 := TL.numL_len (by decide) (by rw [xl_len]; decide)
  refine ⟨?_, ?_, ?_⟩
  · unfold XS okT okTs okTs okTs
    rw [s1.ok]
    unfold okT
    rw [xl_len]
    decide
  · unfold XS TX.dep TX.deps TX.deps TX.deps TX.dep
    decide
  · unfold XS
    have l1 := s1.len
    have l2 : (wr (.txt (XL))).length ≤ 102 := by
      rw [wr_txt, List.length_append, List.length_cons, xl_len]
      rw [xl_len] at hl
      omega
    rw [tup_len, wrs_cons2_nil, List.length_append, List.length_cons]
    have : Wd 0 = 64 := rfl
    omega
theorem law_true (ns : List Int) (h63 : ns.length ≤ 63) : ∃ s', F_law [.flst (ns.map D.int)] [] = .ok (.bl true) s' := by
  obtain ⟨c, hp, P⟩ := run_pot ns h63
  obtain ⟨t0, c1, r1, P1, sm⟩ := run_lthing 5 3 c [] (by decide) P
  obtain ⟨v, c2, r2, hv, P2⟩ := draw_nat (r := []) P1 (l := 2) (by decide) (bt_small (by decide))
  obtain ⟨n, hn, en⟩ : ∃ n : Nat, n ≤ 6 ∧ atI [D.int 0, D.int 6] (v : Int) = some (.int (n : Int)) := by
    have : v = 0 ∨ v = 1 := by omega
    rcases this with rfl | rfl
    · exact ⟨0, by decide, rfl⟩
    · exact ⟨6, by decide, rfl⟩
  have w3 : Wd 3 ≤ 10000 := by decide
  obtain ⟨env', s', el, t, x3, rfl, rfl, ht⟩ := loop_foldI (r := ⟨(List.range n).map fun (i : Nat) => D.int (i : Int), none⟩) (g := gNm 3) (b := B_law_1) (enc := fun (i : Nat) => D.int (i : Int)) (step := fun (_ : Unit) (_ : Nat) => ())
    (fun i _ env s' => ∃ (t : Thg) (x3 : Option D), env = [some (.flst (ns.map D.int)), some (.ptr 0), some (tD t), x3, none, none] ∧ s' = c2 :: [] ∧ (okT t = true ∧ TX.dep t ≤ 3 + i ∧ (wr t).length ≤ 10000 + 100 * i)) (fun _ _ _ _ _ => trivial) (List.range n) 0 () [some (.flst (ns.map D.int)), some (.ptr 0), some (tD t0), none, none, none] [c2] ⟨t0, none, rfl, rfl, sm.ok, sm.dep, by have := sm.len; omega⟩ (by
      rintro i a ha _ env s' ⟨t, x3, rfl, rfl, ok, hd, hl⟩
      have ha2 : a < n := by
        have hm := List.mem_of_getElem? ha
        exact List.mem_range.mp hm
      have h60 : (100 : Int) < T60 := by decide +kernel
      have si := sm_int (i := (a : Int)) 0 (by omega) (by omega)
      refine ⟨_, _, ?_, .tup [.int (a : Int), t], some (.int (a : Int)), rfl, rfl, ?_, ?_, ?_⟩
      · rw [tD_tup]
        show _ = R.ok (Out.nx [some (.flst (ns.map D.int)), some (.ptr 0), some (.tup [tD (.int (a : Int)), tD t]), some (.int (a : Int)), none, none]) [c2]
        rw [tD_int]
        simp! only [B_law_1]
      · unfold okT okTs okTs okTs
        rw [si.ok, ok]
        rfl
      · have := si.dep
        unfold TX.dep TX.deps TX.deps TX.deps
        omega
      · have l1 := si.len
        have : Wd 0 = 64 := rfl
        rw [tup_len, wrs_cons2_nil, List.length_append, List.length_cons]
        omega)
  have ln : (List.range n).length = n := List.length_range
  rw [ln] at ht
  obtain ⟨ok, hd, hl⟩ := ht
  have e1 : tD XS = .tup [.str (tx (XL)), .int (-1)] := by
    unfold XS
    rw [tD_tup]
    show D.tup [tD _, tD _] = _
    rw [tD_txt, tD_int]
  obtain ⟨env2, s2, el2, y4, y5, rfl, rfl⟩ := loop_fold (r := ⟨[t, XS, .int T199].map tD, none⟩) (g := gNm 4) (b := B_law_2) (enc := tD) (step := fun (_ : Unit) (_ : Thg) => ())
    (fun _ env s' => ∃ (y4 y5 : Option D), env = [some (.flst (ns.map D.int)), some (.ptr 0), some (tD t), x3, y4, y5] ∧ s' = c2 :: []) (fun _ _ _ _ => trivial) [t, XS, .int T199] () [some (.flst (ns.map D.int)), some (.ptr 0), some (tD t), x3, none, none] [c2] ⟨none, none, rfl, rfl⟩ (by
      rintro x hx _ env s' ⟨y4, y5, rfl, rfl⟩
      have hk : okT x = true ∧ TX.dep x ≤ 11 ∧ (wr x).length ≤ 100000 := by
        rcases List.mem_cons.mp hx with rfl | hx
        · exact ⟨ok, by omega, by omega⟩
        · rcases List.mem_cons.mp hx with rfl | hx
          · exact xs_ok
          · rw [List.mem_singleton.mp hx]
            exact big_ok
      obtain ⟨z5, e⟩ := run_b2 (s := [c2]) (x0 := some (.flst (ns.map D.int))) (x1 := some (.ptr 0)) (x2 := some (tD t)) (x3 := x3) (x5 := y5) hk.1 hk.2.1 hk.2.2
      refine ⟨_, _, ?_, some (tD x), z5, rfl, rfl⟩
      rw [gNm_run, on_ok]
      exact e)
  have em : [t, XS, .int T199].map tD = [tD t, .tup [.str (tx (XL)), .int (-1)], .int T199] := by
    show [tD t, tD XS, tD (.int T199)] = _
    rw [e1, tD_int]
  rw [em] at el2
  have rg : ∀ s : S, rng1D [.int (n : Int)] s = .ok ⟨(List.range n).map fun (i : Nat) => D.int (i : Int), none⟩ s := fun s => rng1_nat (by omega)
  refine law_cut ⟨[c2], ?_⟩
  have r1' : FF__law_thing 5 [.ptr 0, .int 3] [c] = .ok (tD t0) [c1] := r1
  have sv : ∀ (ds : List D) (s : S), srcD (.vls ds) s = .ok ⟨ds, none⟩ s := fun ds s => rfl
  unfold m_law
  simp! only [hp, r1', r2, en, rg, el, mul_xs, p60, p19, mul1, mul2, mul3, sv, el2]
end

section
variable {P : Program} {w : World} {K : PySem.W.Frag} {mg : Str → Option Value} {base : Heap}
theorem ok__law_pot {f__law_pot : Addr} {fd__law_pot : FuncData} (D__law_pot : DefOk K mg "_law_pot" s__law_pot ["script"] f__law_pot fd__law_pot)
    (z_int : mg "int" = none)
    (z_list : mg "list" = none) : FnOk P w K mg base CX0 1 f__law_pot fd__law_pot ["script"] (spM K 1 F__law_pot) := by
  exact fn_ok D__law_pot.fn sc__law_pot rfl fun cdv A outer s H E hr =>
      (sss_cons (ss_set 1 sc__law_pot.nd se_int)
      (sss_cons (ss_for PassesOwn.never rfl (si_seq (se_var 0)) (sg_name 2 sc__law_pot.nd) (sss_one (ss_set 1 sc__law_pot.nd (se_mod (se_callTy cr_int (by rfl) z_int (by decide +kernel) (sa_cons (se_add (se_mul (se_var 1) se_int) (se_var 2)) sa_nil)) se_int))))
      (sss_one (ss_ret (se_lst (sa_cons (se_callTy cr_listF (by rfl) z_list (by decide +kernel) (sa_cons (se_var 0) sa_nil)) (sa_cons se_int (sa_cons se_int (sa_cons (se_var 1) sa_nil)))))))))
theorem ok__law_next {f__law_next : Addr} {fd__law_next : FuncData} (D__law_next : DefOk K mg "_law_next" s__law_next ["pot", "limit"] f__law_next fd__law_next)
    (z_len : mg "len" = none)
    (z_int : mg "int" = none)
    (z_abs : mg "abs" = none) : FnOk P w K mg base CX0 1 f__law_next fd__law_next ["pot", "limit"] (spM K 2 F__law_next) := by
  exact fn_okF D__law_next.fn sc__law_next rfl fun cdv A outer s H E hr =>
      (sss_cons (ss_if (st_w (sw_and (st_cmp (op_eqDD hr.units) (se_ix (hu_of hr) (se_var 0) se_int (fun _ _ => rfl)) se_int (by first | exact nomark _ | rfl)) (sw_and1 (st_cmp (op_ltD hr.units0) (se_ix (hu_of hr) (se_var 0) se_int (fun _ _ => rfl)) (se_callB cr_len (by rfl) z_len (by decide +kernel) (sa_cons (se_ix (hu_of hr) (se_var 0) se_int (fun _ _ => rfl)) sa_nil)) (by first | exact nomark _ | rfl))))) (sss_cons (ss_set 3 sc__law_next.nd (se_callB cr_abs (by rfl) z_abs (by decide +kernel) (sa_cons (se_callTy cr_int (by rfl) z_int (by decide +kernel) (sa_cons (se_ix (hu_of hr) (se_ix (hu_of hr) (se_var 0) se_int (fun _ _ => rfl)) (se_ix (hu_of hr) (se_var 0) se_int (fun _ _ => rfl)) (fun _ _ => rfl)) sa_nil)) sa_nil)))
      (sss_cons (ss_asg (se_add (se_ix (hu_of hr) (se_var 0) se_int (fun _ _ => rfl)) se_int) (sg_subL (se_var 0) se_int))
      (sss_cons (ss_if (st_cmp (op_ltD hr.units0) (se_var 3) (se_pow se_int se_int) (by first | exact nomark _ | rfl)) (sss_one (ss_ret (se_mod (se_callTy cr_int (by rfl) z_int (by decide +kernel) (sa_cons (se_var 3) sa_nil)) (se_var 1)))) sss_nil)
      (sss_one (ss_asg (se_var 3) (sg_subL (se_var 0) se_int)))))) sss_nil)
      (sss_cons (ss_if (st_cmp op_gtD (se_ix (hu_of hr) (se_var 0) se_int (fun _ _ => rfl)) se_int (by first | exact nomark _ | rfl)) (sss_cons (ss_set 4 sc__law_next.nd (se_mod (se_callTy cr_int (by rfl) z_int (by decide +kernel) (sa_cons (se_ix (hu_of hr) (se_var 0) se_int (fun _ _ => rfl)) sa_nil)) (se_var 1)))
      (sss_cons (ss_asg (se_fdiv (se_ix (hu_of hr) (se_var 0) se_int (fun _ _ => rfl)) (se_var 1)) (sg_subL (se_var 0) se_int))
      (sss_one (ss_ret (se_var 4))))) sss_nil)
      (sss_cons (ss_asg (se_mod (se_callTy cr_int (by rfl) z_int (by decide +kernel) (sa_cons (se_add (se_mul (se_ix (hu_of hr) (se_var 0) se_int (fun _ _ => rfl)) se_int) se_int) sa_nil)) se_int) (sg_subL (se_var 0) se_int))
      (sss_cons (ss_set 2 sc__law_next.nd (se_mod (se_callTy cr_int (by rfl) z_int (by decide +kernel) (sa_cons (se_add (se_mul (se_ix (hu_of hr) (se_var 0) se_int (fun _ _ => rfl)) se_int) (se_fdiv (se_ix (hu_of hr) (se_var 0) se_int (fun _ _ => rfl)) se_int)) sa_nil)) se_int))
      (sss_one (ss_ret (se_mod (se_callTy cr_int (by rfl) z_int (by decide +kernel) (sa_cons (se_var 2) sa_nil)) (se_var 1))))))))
theorem okr__law_thing {f__law_thing : Addr} {fd__law_thing : FuncData} (D__law_thing : DefOk K mg "_law_thing" s__law_thing ["pot", "depth"] f__law_thing fd__law_thing)
    {f__law_next : Addr} {fd__law_next : FuncData} (D__law_next : DefOk K mg "_law_next" s__law_next ["pot", "limit"] f__law_next fd__law_next)
    (G__law_next : FnOk P w K mg base CX0 1 f__law_next fd__law_next ["pot", "limit"] (spM K 2 F__law_next))
    (z_range : mg "range" = none)
    (z_tuple : mg "tuple" = none) : ∀ j : Nat, FnOk P w K mg base CX0 (2 + j) f__law_thing fd__law_thing ["pot", "depth"] (spM K 2 (FF__law_thing j)) := by
  intro j
  induction j with
  | zero => exact fn_stuck
  | succ j ih =>
    have G__law_thing := ih
    exact fn_okF D__law_thing.fn sc__law_thing rfl fun cdv A outer s H E hr =>
      (sss_cons (ss_set 2 sc__law_thing.nd (se_call (n := 2) G__law_next (hr.mono (Nat.le_trans (by decide) (Nat.le_add_right 2 j))) (by rfl) D__law_next.m D__law_next.fn.kp D__law_next.b passA (sa_cons (se_var 0) (sa_cons se_int sa_nil))))
      (sss_cons (ss_if (st_cmp (op_eqDD hr.units) (se_var 2) se_int (by first | exact nomark _ | rfl)) (sss_one (ss_ret (se_sub (se_call (n := 2) G__law_next (hr.mono (Nat.le_trans (by decide) (Nat.le_add_right 2 j))) (by rfl) D__law_next.m D__law_next.fn.kp D__law_next.b passA (sa_cons (se_var 0) (sa_cons (se_pow se_int se_int) sa_nil))) (se_call (n := 2) G__law_next (hr.mono (Nat.le_trans (by decide) (Nat.le_add_right 2 j))) (by rfl) D__law_next.m D__law_next.fn.kp D__law_next.b passA (sa_cons (se_var 0) (sa_cons (se_pow se_int se_int) sa_nil)))))) sss_nil)
      (sss_cons (ss_if (st_w (sw_or (st_cmp (op_eqDD hr.units) (se_var 2) se_int (by first | exact nomark _ | rfl)) (sw_or1 (st_cmp (op_eqDD hr.units) (se_var 1) se_int (by first | exact nomark _ | rfl))))) (sss_one (ss_ret (se_sub (se_call (n := 2) G__law_next (hr.mono (Nat.le_trans (by decide) (Nat.le_add_right 2 j))) (by rfl) D__law_next.m D__law_next.fn.kp D__law_next.b passA (sa_cons (se_var 0) (sa_cons se_int sa_nil))) se_int))) sss_nil)
      (sss_cons (ss_if (st_cmp (op_ltD hr.units0) (se_var 2) se_int (by first | exact nomark _ | rfl)) (sss_one (ss_ret (se_join se_str (sa_cons (se_compF (own := [("k", 3)]) rfl sc__law_thing.nd (si_range1 (by rfl) z_range (sa_cons (se_call (n := 2) G__law_next (hr.mono (Nat.le_trans (by decide) (Nat.le_add_right 2 j))) (by rfl) D__law_next.m D__law_next.fn.kp D__law_next.b passA (sa_cons (se_var 0) (sa_cons se_int sa_nil))) sa_nil)) (blkOk_by (own := [("k", 3)]) (N := N__law_thing) (sc := defScope s__law_thing) (by decide +kernel)) (gt_name (by decide)) (fun _ _ _ _ _ => pg_name (i := 3) sc__law_thing.nd rfl (.inl rfl)) (fun _ _ _ _ _ => sts_nil) (fun _ _ _ _ _ => (se_ix (hu_of hr) se_str (se_call (n := 2) G__law_next (hr.mono (Nat.le_trans (by decide) (Nat.le_add_right 2 j))) (by rfl) D__law_next.m D__law_next.fn.kp D__law_next.b passA (sa_cons (se_var 0) (sa_cons se_int sa_nil))) (fun _ _ => rfl)))) sa_nil)))) sss_nil)
      (sss_one (ss_ret (se_callTy cr_tuple (by rfl) z_tuple (by decide +kernel) (sa_cons (se_compF (own := [("k", 3)]) rfl sc__law_thing.nd (si_range1 (by rfl) z_range (sa_cons (se_call (n := 2) G__law_next (hr.mono (Nat.le_trans (by decide) (Nat.le_add_right 2 j))) (by rfl) D__law_next.m D__law_next.fn.kp D__law_next.b passA (sa_cons (se_var 0) (sa_cons se_int sa_nil))) sa_nil)) (blkOk_by (own := [("k", 3)]) (N := N__law_thing) (sc := defScope s__law_thing) (by decide +kernel)) (gt_name (by decide)) (fun _ _ _ _ _ => pg_name (i := 3) sc__law_thing.nd rfl (.inl rfl)) (fun _ _ _ _ _ => sts_nil) (fun _ _ _ _ _ => (se_call (n := 2) G__law_thing hr (by rfl) D__law_thing.m D__law_thing.fn.kp D__law_thing.b passA (sa_cons (se_var 0) (sa_cons (se_sub (se_var 1) se_int) sa_nil))))) sa_nil))))))))
theorem ok__law_thing {f__law_thing : Addr} {fd__law_thing : FuncData} (D__law_thing : DefOk K mg "_law_thing" s__law_thing ["pot", "depth"] f__law_thing fd__law_thing)
    {f__law_next : Addr} {fd__law_next : FuncData} (D__law_next : DefOk K mg "_law_next" s__law_next ["pot", "limit"] f__law_next fd__law_next)
    (G__law_next : FnOk P w K mg base CX0 1 f__law_next fd__law_next ["pot", "limit"] (spM K 2 F__law_next))
    (z_range : mg "range" = none)
    (z_tuple : mg "tuple" = none) : FnOk P w K mg base CX0 7 f__law_thing fd__law_thing ["pot", "depth"] (spM K 2 (FF__law_thing 5)) := by
  exact okr__law_thing D__law_thing D__law_next G__law_next z_range z_tuple 5
theorem ok__digits {f__digits : Addr} {fd__digits : FuncData} (D__digits : DefOk K mg "_digits" s__digits ["n"] f__digits fd__digits)
    (z_divmod : mg "divmod" = none)
    (z_str : mg "str" = none)
    (k_BLOCK : ∃ t, mg "BLOCK" = some (.int (10000000000000000000000000000000000000000000000000000000000000000) t))
    (k_DIGITS_OF_BLOCK : ∃ t, mg "DIGITS_OF_BLOCK" = some (.int (64) t)) : FnOk P w K mg base CX0 1 f__digits fd__digits ["n"] (spM K 1 F__digits) := by
  obtain ⟨_, c_BLOCK⟩ := k_BLOCK
  obtain ⟨_, c_DIGITS_OF_BLOCK⟩ := k_DIGITS_OF_BLOCK
  exact fn_okF D__digits.fn sc__digits rfl fun cdv A outer s H E hr =>
      (sss_cons (ss_set 1 sc__digits.nd (se_lst sa_nil))
      (sss_cons (ss_while PassesOwn.never (st_cmp op_geD (se_var 0) (se_glob (v := .int 10000000000000000000000000000000000000000000000000000000000000000) (by rfl) c_BLOCK ⟨_, rfl⟩ (fun _ _ => .int _)) (by first | exact nomark _ | rfl)) (sss_cons (ss_asg (se_callB cr_divmod (by rfl) z_divmod (by decide +kernel) (sa_cons (se_var 0) (sa_cons (se_glob (v := .int 10000000000000000000000000000000000000000000000000000000000000000) (by rfl) c_BLOCK ⟨_, rfl⟩ (fun _ _ => .int _)) sa_nil))) (sg_tup rfl (sgs_cons (sg_name 0 sc__digits.nd) (sgs_cons (sg_name 2 sc__digits.nd) sgs_nil))))
      (sss_one (ss_expr (se_append (se_var 1) (sa_cons (se_zfill (se_callTy cr_strI (by rfl) z_str (by decide +kernel) (sa_cons (se_var 2) sa_nil)) (se_glob (v := .int 64) (by rfl) c_DIGITS_OF_BLOCK ⟨_, rfl⟩ (fun _ _ => .int _))) sa_nil))))))
      (sss_cons (ss_expr (se_append (se_var 1) (sa_cons (se_callTy cr_strI (by rfl) z_str (by decide +kernel) (sa_cons (se_var 0) sa_nil)) sa_nil)))
      (sss_one (ss_ret (se_join se_str (sa_cons (se_rev (se_var 1)) sa_nil)))))))
theorem okr_write {f_write : Addr} {fd_write : FuncData} (D_write : DefOk K mg "write" s_write ["thing"] f_write fd_write)
    {f__digits : Addr} {fd__digits : FuncData} (D__digits : DefOk K mg "_digits" s__digits ["n"] f__digits fd__digits)
    (G__digits : FnOk P w K mg base CX0 1 f__digits fd__digits ["n"] (spM K 1 F__digits))
    (z_isinstance : mg "isinstance" = none)
    (z_tuple : mg "tuple" = none)
    (z_str : mg "str" = none)
    (z_len : mg "len" = none) : ∀ j : Nat, FnOk P w K mg base CX0 (2 + j) f_write fd_write ["thing"] (spM K 1 (FF_write j)) := by
  intro j
  induction j with
  | zero => exact fn_stuck
  | succ j ih =>
    have G_write := ih
    exact fn_okF D_write.fn sc_write rfl fun cdv A outer s H E hr =>
      (sss_cons (ss_if (st_truth (se_isi (se_var 0) (by rfl) z_isinstance (by rfl) z_tuple (by decide +kernel))) (sss_one (ss_ret (se_add (se_add se_str (se_join se_str (sa_cons (se_compF (own := [("part", 1)]) rfl sc_write.nd (si_seq (se_var 0)) (blkOk_by (own := [("part", 1)]) (N := N_write) (sc := defScope s_write) (by decide +kernel)) (gt_name (by decide)) (fun _ _ _ _ _ => pg_name (i := 1) sc_write.nd rfl (.inl rfl)) (fun _ _ _ _ _ => sts_nil) (fun _ _ _ _ _ => (se_call (n := 1) G_write hr (by rfl) D_write.m D_write.fn.kp D_write.b passA (sa_cons (se_var 1) sa_nil)))) sa_nil))) se_str))) sss_nil)
      (sss_cons (ss_if (st_truth (se_isi (se_var 0) (by rfl) z_isinstance (by rfl) z_str (by decide +kernel))) (sss_one (ss_ret (se_joined (sj_cons (se_fmt (se_callB cr_len (by rfl) z_len (by decide +kernel) (sa_cons (se_var 0) sa_nil))) (sj_cons se_str (sj_cons (se_fmt (se_var 0)) sj_nil)))))) sss_nil)
      (sss_cons (ss_if (st_cmp (op_ltD hr.units0) (se_var 0) se_int (by first | exact nomark _ | rfl)) (sss_one (ss_ret (se_add se_str (se_call (n := 1) G__digits (hr.mono (Nat.le_trans (by decide) (Nat.le_add_right 2 j))) (by rfl) D__digits.m D__digits.fn.kp D__digits.b passA (sa_cons (se_neg (se_var 0)) sa_nil))))) sss_nil)
      (sss_one (ss_ret (se_call (n := 1) G__digits (hr.mono (Nat.le_trans (by decide) (Nat.le_add_right 2 j))) (by rfl) D__digits.m D__digits.fn.kp D__digits.b passA (sa_cons (se_var 0) sa_nil)))))))
theorem ok_write {f_write : Addr} {fd_write : FuncData} (D_write : DefOk K mg "write" s_write ["thing"] f_write fd_write)
    {f__digits : Addr} {fd__digits : FuncData} (D__digits : DefOk K mg "_digits" s__digits ["n"] f__digits fd__digits)
    (G__digits : FnOk P w K mg base CX0 1 f__digits fd__digits ["n"] (spM K 1 F__digits))
    (z_isinstance : mg "isinstance" = none)
    (z_tuple : mg "tuple" = none)
    (z_str : mg "str" = none)
    (z_len : mg "len" = none) : FnOk P w K mg base CX0 14 f_write fd_write ["thing"] (spM K 1 (FF_write 12)) := by
  exact okr_write D_write D__digits G__digits z_isinstance z_tuple z_str z_len 12
theorem okr__law_written {f__law_written : Addr} {fd__law_written : FuncData} (D__law_written : DefOk K mg "_law_written" s__law_written ["thing"] f__law_written fd__law_written)
    (z_isinstance : mg "isinstance" = none)
    (z_int : mg "int" = none)
    (z_str : mg "str" = none)
    (z_len : mg "len" = none) : ∀ j : Nat, FnOk P w K mg base CX0 (1 + j) f__law_written fd__law_written ["thing"] (spM K 1 (FF__law_written j)) := by
  intro j
  induction j with
  | zero => exact fn_stuck
  | succ j ih =>
    have G__law_written := ih
    exact fn_okF D__law_written.fn sc__law_written rfl fun cdv A outer s H E hr =>
      (sss_cons (ss_if (st_truth (se_isi (se_var 0) (by rfl) z_isinstance (by rfl) z_int (by decide +kernel))) (sss_one (ss_ret (se_callTy cr_strI (by rfl) z_str (by decide +kernel) (sa_cons (se_var 0) sa_nil)))) sss_nil)
      (sss_cons (ss_if (st_truth (se_isi (se_var 0) (by rfl) z_isinstance (by rfl) z_str (by decide +kernel))) (sss_one (ss_ret (se_add (se_add (se_callTy cr_strI (by rfl) z_str (by decide +kernel) (sa_cons (se_callB cr_len (by rfl) z_len (by decide +kernel) (sa_cons (se_var 0) sa_nil)) sa_nil)) se_str) (se_var 0)))) sss_nil)
      (sss_one (ss_ret (se_add (se_add se_str (se_join se_str (sa_cons (se_compF (own := [("part", 1)]) rfl sc__law_written.nd (si_seq (se_var 0)) (blkOk_by (own := [("part", 1)]) (N := N__law_written) (sc := defScope s__law_written) (by decide +kernel)) (gt_name (by decide)) (fun _ _ _ _ _ => pg_name (i := 1) sc__law_written.nd rfl (.inl rfl)) (fun _ _ _ _ _ => sts_nil) (fun _ _ _ _ _ => (se_call (n := 1) G__law_written hr (by rfl) D__law_written.m D__law_written.fn.kp D__law_written.b passA (sa_cons (se_var 1) sa_nil)))) sa_nil))) se_str)))))
theorem ok__law_written {f__law_written : Addr} {fd__law_written : FuncData} (D__law_written : DefOk K mg "_law_written" s__law_written ["thing"] f__law_written fd__law_written)
    (z_isinstance : mg "isinstance" = none)
    (z_int : mg "int" = none)
    (z_str : mg "str" = none)
    (z_len : mg "len" = none) : FnOk P w K mg base CX0 13 f__law_written fd__law_written ["thing"] (spM K 1 (FF__law_written 12)) := by
  exact okr__law_written D__law_written z_isinstance z_int z_str z_len 12
theorem ok__digits_at {f__digits_at : Addr} {fd__digits_at : FuncData} (D__digits_at : DefOk K mg "_digits_at" s__digits_at ["text", "at"] f__digits_at fd__digits_at) : FnOk P w K mg base CX0 1 f__digits_at fd__digits_at ["text", "at"] (spM K 2 F__digits_at) := by
  exact fn_okF D__digits_at.fn sc__digits_at rfl fun cdv A outer s H E hr =>
      (sss_cons (ss_set 2 sc__digits_at.nd (se_var 1))
      (sss_cons (ss_while PassesOwn.never (st_chain op_leD op_leD se_str (se_slice (se_var 0) (so_some (se_var 2)) (so_some (se_add (se_var 2) se_int))) se_str) (sss_one (ss_aug 2 sc__digits_at.nd ip_addD se_int)))
      (sss_one (ss_ret (se_tup (sa_cons (se_slice (se_var 0) (so_some (se_var 1)) (so_some (se_var 2))) (sa_cons (se_var 2) sa_nil)))))))
theorem ok__integer {f__integer : Addr} {fd__integer : FuncData} (D__integer : DefOk K mg "_integer" s__integer ["digits", "most"] f__integer fd__integer)
    (z_len : mg "len" = none)
    (z_int : mg "int" = none) : FnOk P w K mg base CX0 1 f__integer fd__integer ["digits", "most"] (spM K 2 F__integer) := by
  exact fn_okF D__integer.fn sc__integer rfl fun cdv A outer s H E hr =>
      (sss_cons (ss_if (st_not (st_chain op_leD op_leD se_int (se_callB cr_len (by rfl) z_len (by decide +kernel) (sa_cons (se_var 0) sa_nil)) (se_var 1))) (sss_one ss_stuck) sss_nil)
      (sss_cons (ss_if (st_w (sw_and (st_cmp (op_eqDD hr.units) (se_ix (hu_of hr) (se_var 0) se_int (fun _ _ => rfl)) se_str (by first | exact nomark _ | rfl)) (sw_and1 (st_cmp (op_neDD hr.units) (se_var 0) se_str (by first | exact nomark _ | rfl))))) (sss_one ss_stuck) sss_nil)
      (sss_one (ss_ret (se_callTy cr_intS (by rfl) z_int (by decide +kernel) (sa_cons (se_var 0) sa_nil))))))
theorem okr__thing_at {f__thing_at : Addr} {fd__thing_at : FuncData} (D__thing_at : DefOk K mg "_thing_at" s__thing_at ["text", "at", "depth"] f__thing_at fd__thing_at)
    {f__tuple_at : Addr} {fd__tuple_at : FuncData} (D__tuple_at : DefOk K mg "_tuple_at" s__tuple_at ["text", "at", "depth"] f__tuple_at fd__tuple_at)
    {f__digits_at : Addr} {fd__digits_at : FuncData} (D__digits_at : DefOk K mg "_digits_at" s__digits_at ["text", "at"] f__digits_at fd__digits_at)
    (G__digits_at : FnOk P w K mg base CX0 1 f__digits_at fd__digits_at ["text", "at"] (spM K 2 F__digits_at))
    {f__integer : Addr} {fd__integer : FuncData} (D__integer : DefOk K mg "_integer" s__integer ["digits", "most"] f__integer fd__integer)
    (G__integer : FnOk P w K mg base CX0 1 f__integer fd__integer ["digits", "most"] (spM K 2 F__integer))
    (z_len : mg "len" = none)
    (z_tuple : mg "tuple" = none)
    (k_LONGEST_INTEGER : ∃ t, mg "LONGEST_INTEGER" = some (.int (200) t))
    (k_LONGEST_LENGTH : ∃ t, mg "LONGEST_LENGTH" = some (.int (2) t))
    (k_MOST_DEEP : ∃ t, mg "MOST_DEEP" = some (.int (40) t)) : ∀ j : Nat, FnOk P w K mg base CX0 (2 + j) f__thing_at fd__thing_at ["text", "at", "depth"] (spM K 3 (FF__thing_at j)) ∧ FnOk P w K mg base CX0 (2 + j) f__tuple_at fd__tuple_at ["text", "at", "depth"] (spM K 3 (FF__tuple_at j)) := by
  obtain ⟨_, c_LONGEST_INTEGER⟩ := k_LONGEST_INTEGER
  obtain ⟨_, c_LONGEST_LENGTH⟩ := k_LONGEST_LENGTH
  obtain ⟨_, c_MOST_DEEP⟩ := k_MOST_DEEP
  intro j
  induction j with
  | zero => exact ⟨fn_stuckX, fn_stuckX⟩
  | succ j ih =>
    obtain ⟨G__thing_at, G__tuple_at⟩ := ih
    constructor
    · exact fn_okF D__thing_at.fn sc__thing_at rfl fun cdv A outer s H E hr =>
      (sss_cons (ss_set 3 sc__thing_at.nd (se_slice (se_var 0) (so_some (se_var 1)) (so_some (se_add (se_var 1) se_int))))
      (sss_cons (ss_if (st_cmp (op_eqDD hr.units) (se_var 3) se_str (by first | exact nomark _ | rfl)) (sss_one (ss_ret (se_call (n := 3) G__tuple_at hr (by rfl) D__tuple_at.m D__tuple_at.fn.kp D__tuple_at.b passA (sa_cons (se_var 0) (sa_cons (se_add (se_var 1) se_int) (sa_cons (se_add (se_var 2) se_int) sa_nil)))))) sss_nil)
      (sss_cons (ss_if (st_cmp (op_eqDD hr.units) (se_var 3) se_str (by first | exact nomark _ | rfl)) (sss_cons (ss_asg (se_call (n := 2) G__digits_at (hr.mono (Nat.le_trans (by decide) (Nat.le_add_right 2 j))) (by rfl) D__digits_at.m D__digits_at.fn.kp D__digits_at.b passA (sa_cons (se_var 0) (sa_cons (se_add (se_var 1) se_int) sa_nil))) (sg_tup rfl (sgs_cons (sg_name 6 sc__thing_at.nd) (sgs_cons (sg_name 5 sc__thing_at.nd) sgs_nil))))
      (sss_cons (ss_if (st_cmp (op_eqDD hr.units) (se_var 6) se_str (by first | exact nomark _ | rfl)) (sss_one ss_stuck) sss_nil)
      (sss_one (ss_ret (se_tup (sa_cons (se_neg (se_call (n := 2) G__integer (hr.mono (Nat.le_trans (by decide) (Nat.le_add_right 2 j))) (by rfl) D__integer.m D__integer.fn.kp D__integer.b passA (sa_cons (se_var 6) (sa_cons (se_glob (v := .int 200) (by rfl) c_LONGEST_INTEGER ⟨_, rfl⟩ (fun _ _ => .int _)) sa_nil)))) (sa_cons (se_var 5) sa_nil))))))) sss_nil)
      (sss_cons (ss_asg (se_call (n := 2) G__digits_at (hr.mono (Nat.le_trans (by decide) (Nat.le_add_right 2 j))) (by rfl) D__digits_at.m D__digits_at.fn.kp D__digits_at.b passA (sa_cons (se_var 0) (sa_cons (se_var 1) sa_nil))) (sg_tup rfl (sgs_cons (sg_name 6 sc__thing_at.nd) (sgs_cons (sg_name 5 sc__thing_at.nd) sgs_nil))))
      (sss_cons (ss_if (st_cmp (op_neDD hr.units) (se_slice (se_var 0) (so_some (se_var 5)) (so_some (se_add (se_var 5) se_int))) se_str (by first | exact nomark _ | rfl)) (sss_one (ss_ret (se_tup (sa_cons (se_call (n := 2) G__integer (hr.mono (Nat.le_trans (by decide) (Nat.le_add_right 2 j))) (by rfl) D__integer.m D__integer.fn.kp D__integer.b passA (sa_cons (se_var 6) (sa_cons (se_glob (v := .int 200) (by rfl) c_LONGEST_INTEGER ⟨_, rfl⟩ (fun _ _ => .int _)) sa_nil))) (sa_cons (se_var 5) sa_nil))))) sss_nil)
      (sss_cons (ss_set 4 sc__thing_at.nd (se_add (se_var 5) se_int))
      (sss_cons (ss_set 5 sc__thing_at.nd (se_add (se_var 4) (se_call (n := 2) G__integer (hr.mono (Nat.le_trans (by decide) (Nat.le_add_right 2 j))) (by rfl) D__integer.m D__integer.fn.kp D__integer.b passA (sa_cons (se_var 6) (sa_cons (se_glob (v := .int 2) (by rfl) c_LONGEST_LENGTH ⟨_, rfl⟩ (fun _ _ => .int _)) sa_nil)))))
      (sss_cons (ss_if (st_cmp op_gtD (se_var 5) (se_callB cr_len (by rfl) z_len (by decide +kernel) (sa_cons (se_var 0) sa_nil)) (by first | exact nomark _ | rfl)) (sss_one ss_stuck) sss_nil)
      (sss_one (ss_ret (se_tup (sa_cons (se_slice (se_var 0) (so_some (se_var 4)) (so_some (se_var 5))) (sa_cons (se_var 5) sa_nil)))))))))))))
    · exact fn_okF D__tuple_at.fn sc__tuple_at rfl fun cdv A outer s H E hr =>
      (sss_cons (ss_if (st_cmp op_gtD (se_var 2) (se_glob (v := .int 40) (by rfl) c_MOST_DEEP ⟨_, rfl⟩ (fun _ _ => .int _)) (by first | exact nomark _ | rfl)) (sss_one ss_stuck) sss_nil)
      (sss_cons (ss_if (st_cmp (op_eqDD hr.units) (se_slice (se_var 0) (so_some (se_var 1)) (so_some (se_add (se_var 1) se_int))) se_str (by first | exact nomark _ | rfl)) (sss_one (ss_ret (se_tup (sa_cons (se_tup sa_nil) (sa_cons (se_add (se_var 1) se_int) sa_nil))))) sss_nil)
      (sss_cons (ss_set 3 sc__tuple_at.nd (se_lst sa_nil))
      (sss_cons (ss_set 4 sc__tuple_at.nd se_str)
      (sss_cons (ss_while PassesOwn.never (st_cmp (op_eqDD hr.units) (se_var 4) se_str (by first | exact nomark _ | rfl)) (sss_cons (ss_asg (se_call (n := 3) G__thing_at hr (by rfl) D__thing_at.m D__thing_at.fn.kp D__thing_at.b passA (sa_cons (se_var 0) (sa_cons (se_var 1) (sa_cons (se_var 2) sa_nil)))) (sg_tup rfl (sgs_cons (sg_name 5 sc__tuple_at.nd) (sgs_cons (sg_name 6 sc__tuple_at.nd) sgs_nil))))
      (sss_cons (ss_expr (se_append (se_var 3) (sa_cons (se_var 5) sa_nil)))
      (sss_cons (ss_set 4 sc__tuple_at.nd (se_slice (se_var 0) (so_some (se_var 6)) (so_some (se_add (se_var 6) se_int))))
      (sss_one (ss_set 1 sc__tuple_at.nd (se_add (se_var 6) se_int)))))))
      (sss_cons (ss_if (st_cmp (op_neDD hr.units) (se_var 4) se_str (by first | exact nomark _ | rfl)) (sss_one ss_stuck) sss_nil)
      (sss_one (ss_ret (se_tup (sa_cons (se_callTy cr_tuple (by rfl) z_tuple (by decide +kernel) (sa_cons (se_var 3) sa_nil)) (sa_cons (se_var 1) sa_nil)))))))))))
theorem ok__thing_at {f__thing_at : Addr} {fd__thing_at : FuncData} (D__thing_at : DefOk K mg "_thing_at" s__thing_at ["text", "at", "depth"] f__thing_at fd__thing_at)
    {f__tuple_at : Addr} {fd__tuple_at : FuncData} (D__tuple_at : DefOk K mg "_tuple_at" s__tuple_at ["text", "at", "depth"] f__tuple_at fd__tuple_at)
    {f__digits_at : Addr} {fd__digits_at : FuncData} (D__digits_at : DefOk K mg "_digits_at" s__digits_at ["text", "at"] f__digits_at fd__digits_at)
    (G__digits_at : FnOk P w K mg base CX0 1 f__digits_at fd__digits_at ["text", "at"] (spM K 2 F__digits_at))
    {f__integer : Addr} {fd__integer : FuncData} (D__integer : DefOk K mg "_integer" s__integer ["digits", "most"] f__integer fd__integer)
    (G__integer : FnOk P w K mg base CX0 1 f__integer fd__integer ["digits", "most"] (spM K 2 F__integer))
    (z_len : mg "len" = none)
    (z_tuple : mg "tuple" = none)
    (k_LONGEST_INTEGER : ∃ t, mg "LONGEST_INTEGER" = some (.int (200) t))
    (k_LONGEST_LENGTH : ∃ t, mg "LONGEST_LENGTH" = some (.int (2) t))
    (k_MOST_DEEP : ∃ t, mg "MOST_DEEP" = some (.int (40) t)) : FnOk P w K mg base CX0 (26) f__thing_at fd__thing_at ["text", "at", "depth"] (spM K 3 (FF__thing_at 24)) := (okr__thing_at D__thing_at D__tuple_at D__digits_at G__digits_at D__integer G__integer z_len z_tuple k_LONGEST_INTEGER k_LONGEST_LENGTH k_MOST_DEEP 24).1
theorem ok__tuple_at {f__thing_at : Addr} {fd__thing_at : FuncData} (D__thing_at : DefOk K mg "_thing_at" s__thing_at ["text", "at", "depth"] f__thing_at fd__thing_at)
    {f__tuple_at : Addr} {fd__tuple_at : FuncData} (D__tuple_at : DefOk K mg "_tuple_at" s__tuple_at ["text", "at", "depth"] f__tuple_at fd__tuple_at)
    {f__digits_at : Addr} {fd__digits_at : FuncData} (D__digits_at : DefOk K mg "_digits_at" s__digits_at ["text", "at"] f__digits_at fd__digits_at)
    (G__digits_at : FnOk P w K mg base CX0 1 f__digits_at fd__digits_at ["text", "at"] (spM K 2 F__digits_at))
    {f__integer : Addr} {fd__integer : FuncData} (D__integer : DefOk K mg "_integer" s__integer ["digits", "most"] f__integer fd__integer)
    (G__integer : FnOk P w K mg base CX0 1 f__integer fd__integer ["digits", "most"] (spM K 2 F__integer))
    (z_len : mg "len" = none)
    (z_tuple : mg "tuple" = none)
    (k_LONGEST_INTEGER : ∃ t, mg "LONGEST_INTEGER" = some (.int (200) t))
    (k_LONGEST_LENGTH : ∃ t, mg "LONGEST_LENGTH" = some (.int (2) t))
    (k_MOST_DEEP : ∃ t, mg "MOST_DEEP" = some (.int (40) t)) : FnOk P w K mg base CX0 (26) f__tuple_at fd__tuple_at ["text", "at", "depth"] (spM K 3 (FF__tuple_at 24)) := (okr__thing_at D__thing_at D__tuple_at D__digits_at G__digits_at D__integer G__integer z_len z_tuple k_LONGEST_INTEGER k_LONGEST_LENGTH k_MOST_DEEP 24).2
theorem ok_read {f_read : Addr} {fd_read : FuncData} (D_read : DefOk K mg "read" s_read ["text"] f_read fd_read)
    {f__thing_at : Addr} {fd__thing_at : FuncData} (D__thing_at : DefOk K mg "_thing_at" s__thing_at ["text", "at", "depth"] f__thing_at fd__thing_at)
    (G__thing_at : FnOk P w K mg base CX0 26 f__thing_at fd__thing_at ["text", "at", "depth"] (spM K 3 (FF__thing_at 24)))
    (z_len : mg "len" = none) : FnOk P w K mg base CX0 27 f_read fd_read ["text"] (spM K 1 F_read) := by
  exact fn_okF D_read.fn sc_read rfl fun cdv A outer s H E hr =>
      (sss_cons (ss_asg (se_call (n := 3) G__thing_at (hr.mono (by decide)) (by rfl) D__thing_at.m D__thing_at.fn.kp D__thing_at.b passA (sa_cons (se_var 0) (sa_cons se_int (sa_cons se_int sa_nil)))) (sg_tup rfl (sgs_cons (sg_name 1 sc_read.nd) (sgs_cons (sg_name 2 sc_read.nd) sgs_nil))))
      (sss_cons (ss_if (st_cmp (op_neDD hr.units) (se_var 2) (se_callB cr_len (by rfl) z_len (by decide +kernel) (sa_cons (se_var 0) sa_nil)) (by first | exact nomark _ | rfl)) (sss_one ss_stuck) sss_nil)
      (sss_one (ss_ret (se_var 1)))))
theorem ok__law_is_int {f__law_is_int : Addr} {fd__law_is_int : FuncData} (D__law_is_int : DefOk K mg "_law_is_int" s__law_is_int ["value"] f__law_is_int fd__law_is_int)
    (z_isinstance : mg "isinstance" = none)
    (z_int : mg "int" = none)
    (z_bool : mg "bool" = none) : FnOk P w K mg base CX0 1 f__law_is_int fd__law_is_int ["value"] (spM K 1 F__law_is_int) := by
  exact fn_okF D__law_is_int.fn sc__law_is_int rfl fun cdv A outer s H E hr =>
      (sss_one (ss_ret (se_and (se_isi (se_var 0) (by rfl) z_isinstance (by rfl) z_int (by decide +kernel)) (se_one (se_not (se_isi (se_var 0) (by rfl) z_isinstance (by rfl) z_bool (by decide +kernel)))))))
theorem okr__law_same {f__law_same : Addr} {fd__law_same : FuncData} (D__law_same : DefOk K mg "_law_same" s__law_same ["found", "value"] f__law_same fd__law_same)
    {f__law_is_int : Addr} {fd__law_is_int : FuncData} (D__law_is_int : DefOk K mg "_law_is_int" s__law_is_int ["value"] f__law_is_int fd__law_is_int)
    (G__law_is_int : FnOk P w K mg base CX0 1 f__law_is_int fd__law_is_int ["value"] (spM K 1 F__law_is_int))
    (z_isinstance : mg "isinstance" = none)
    (z_bool : mg "bool" = none)
    (z_int : mg "int" = none)
    (z_str : mg "str" = none)
    (z_list : mg "list" = none)
    (z_tuple : mg "tuple" = none)
    (z_len : mg "len" = none)
    (z_range : mg "range" = none)
    (z_all : mg "all" = none) : ∀ j : Nat, FnOk P w K mg base CX0 (2 + j) f__law_same fd__law_same ["found", "value"] (spM K 2 (FF__law_same j)) := by
  intro j
  induction j with
  | zero => exact fn_stuck
  | succ j ih =>
    have G__law_same := ih
    exact fn_okF D__law_same.fn sc__law_same rfl fun cdv A outer s H E hr =>
      (sss_cons (ss_if (st_isN (se_var 1)) (sss_one (ss_ret (se_isN (se_var 0)))) sss_nil)
      (sss_cons (ss_if (st_truth (se_isi (se_var 1) (by rfl) z_isinstance (by rfl) z_bool (by decide +kernel))) (sss_one (ss_ret (se_and (se_isi (se_var 0) (by rfl) z_isinstance (by rfl) z_bool (by decide +kernel)) (se_one (se_cmp (op_eqDD hr.units) (se_var 0) (se_var 1) (by first | exact nomark _ | rfl)))))) sss_nil)
      (sss_cons (ss_if (st_truth (se_isi (se_var 1) (by rfl) z_isinstance (by rfl) z_int (by decide +kernel))) (sss_one (ss_ret (se_and (se_call (n := 1) G__law_is_int (hr.mono (Nat.le_trans (by decide) (Nat.le_add_right 2 j))) (by rfl) D__law_is_int.m D__law_is_int.fn.kp D__law_is_int.b passA (sa_cons (se_var 0) sa_nil)) (se_one (se_cmp (op_eqDD hr.units) (se_var 0) (se_var 1) (by first | exact nomark _ | rfl)))))) sss_nil)
      (sss_cons (ss_if (st_truth (se_isi (se_var 1) (by rfl) z_isinstance (by rfl) z_str (by decide +kernel))) (sss_one (ss_ret (se_and (se_isi (se_var 0) (by rfl) z_isinstance (by rfl) z_str (by decide +kernel)) (se_one (se_cmp (op_eqDD hr.units) (se_var 0) (se_var 1) (by first | exact nomark _ | rfl)))))) sss_nil)
      (sss_cons (ss_if (st_w (sw_or (st_cmp (op_neDD hr.units) (se_isi (se_var 1) (by rfl) z_isinstance (by rfl) z_list (by decide +kernel)) (se_isi (se_var 0) (by rfl) z_isinstance (by rfl) z_list (by decide +kernel)) (by first | exact nomark _ | rfl)) (sw_or1 (st_cmp (op_neDD hr.units) (se_isi (se_var 1) (by rfl) z_isinstance (by rfl) z_tuple (by decide +kernel)) (se_isi (se_var 0) (by rfl) z_isinstance (by rfl) z_tuple (by decide +kernel)) (by first | exact nomark _ | rfl))))) (sss_one (ss_ret se_bl)) sss_nil)
      (sss_one (ss_ret (se_and (se_cmp (op_eqDD hr.units) (se_callB cr_len (by rfl) z_len (by decide +kernel) (sa_cons (se_var 0) sa_nil)) (se_callB cr_len (by rfl) z_len (by decide +kernel) (sa_cons (se_var 1) sa_nil)) (by first | exact nomark _ | rfl)) (se_one (se_callB (cr_allD rfl) (by rfl) z_all (by decide +kernel) (sa_cons (se_compF (own := [("k", 2)]) rfl sc__law_same.nd (si_range1 (by rfl) z_range (sa_cons (se_callB cr_len (by rfl) z_len (by decide +kernel) (sa_cons (se_var 1) sa_nil)) sa_nil)) (blkOk_by (own := [("k", 2)]) (N := N__law_same) (sc := defScope s__law_same) (by decide +kernel)) (gt_name (by decide)) (fun _ _ _ _ _ => pg_name (i := 2) sc__law_same.nd rfl (.inl rfl)) (fun _ _ _ _ _ => sts_nil) (fun _ _ _ _ _ => (se_call (n := 2) G__law_same hr (by rfl) D__law_same.m D__law_same.fn.kp D__law_same.b passA (sa_cons (se_ix (hu_of hr) (se_var 0) (se_var 2) (fun _ _ => rfl)) (sa_cons (se_ix (hu_of hr) (se_var 1) (se_var 2) (fun _ _ => rfl)) sa_nil))))) sa_nil)))))))))))
theorem ok__law_same {f__law_same : Addr} {fd__law_same : FuncData} (D__law_same : DefOk K mg "_law_same" s__law_same ["found", "value"] f__law_same fd__law_same)
    {f__law_is_int : Addr} {fd__law_is_int : FuncData} (D__law_is_int : DefOk K mg "_law_is_int" s__law_is_int ["value"] f__law_is_int fd__law_is_int)
    (G__law_is_int : FnOk P w K mg base CX0 1 f__law_is_int fd__law_is_int ["value"] (spM K 1 F__law_is_int))
    (z_isinstance : mg "isinstance" = none)
    (z_bool : mg "bool" = none)
    (z_int : mg "int" = none)
    (z_str : mg "str" = none)
    (z_list : mg "list" = none)
    (z_tuple : mg "tuple" = none)
    (z_len : mg "len" = none)
    (z_range : mg "range" = none)
    (z_all : mg "all" = none) : FnOk P w K mg base CX0 14 f__law_same fd__law_same ["found", "value"] (spM K 2 (FF__law_same 12)) := by
  exact okr__law_same D__law_same D__law_is_int G__law_is_int z_isinstance z_bool z_int z_str z_list z_tuple z_len z_range z_all 12
theorem ok_law {f_law : Addr} {fd_law : FuncData} (D_law : DefOk K mg "law" s_law ["script"] f_law fd_law)
    {f__law_pot : Addr} {fd__law_pot : FuncData} (D__law_pot : DefOk K mg "_law_pot" s__law_pot ["script"] f__law_pot fd__law_pot)
    (G__law_pot : FnOk P w K mg base CX0 1 f__law_pot fd__law_pot ["script"] (spM K 1 F__law_pot))
    {f__law_thing : Addr} {fd__law_thing : FuncData} (D__law_thing : DefOk K mg "_law_thing" s__law_thing ["pot", "depth"] f__law_thing fd__law_thing)
    (G__law_thing : FnOk P w K mg base CX0 7 f__law_thing fd__law_thing ["pot", "depth"] (spM K 2 (FF__law_thing 5)))
    {f__law_next : Addr} {fd__law_next : FuncData} (D__law_next : DefOk K mg "_law_next" s__law_next ["pot", "limit"] f__law_next fd__law_next)
    (G__law_next : FnOk P w K mg base CX0 1 f__law_next fd__law_next ["pot", "limit"] (spM K 2 F__law_next))
    {f_write : Addr} {fd_write : FuncData} (D_write : DefOk K mg "write" s_write ["thing"] f_write fd_write)
    (G_write : FnOk P w K mg base CX0 14 f_write fd_write ["thing"] (spM K 1 (FF_write 12)))
    {f__law_written : Addr} {fd__law_written : FuncData} (D__law_written : DefOk K mg "_law_written" s__law_written ["thing"] f__law_written fd__law_written)
    (G__law_written : FnOk P w K mg base CX0 13 f__law_written fd__law_written ["thing"] (spM K 1 (FF__law_written 12)))
    {f_read : Addr} {fd_read : FuncData} (D_read : DefOk K mg "read" s_read ["text"] f_read fd_read)
    (G_read : FnOk P w K mg base CX0 27 f_read fd_read ["text"] (spM K 1 F_read))
    {f__law_same : Addr} {fd__law_same : FuncData} (D__law_same : DefOk K mg "_law_same" s__law_same ["found", "value"] f__law_same fd__law_same)
    (G__law_same : FnOk P w K mg base CX0 14 f__law_same fd__law_same ["found", "value"] (spM K 2 (FF__law_same 12)))
    (z_range : mg "range" = none)
    (z_isinstance : mg "isinstance" = none)
    (z_str : mg "str" = none) : FnOk P w K mg base CX0 28 f_law fd_law ["script"] (spM K 1 F_law) := by
  exact fn_okF D_law.fn sc_law rfl fun cdv A outer s H E hr =>
      (sss_cons (ss_set 1 sc_law.nd (se_call (n := 1) G__law_pot (hr.mono (by decide)) (by rfl) D__law_pot.m D__law_pot.fn.kp D__law_pot.b passA (sa_cons (se_var 0) sa_nil)))
      (sss_cons (ss_set 2 sc_law.nd (se_call (n := 2) G__law_thing (hr.mono (by decide)) (by rfl) D__law_thing.m D__law_thing.fn.kp D__law_thing.b passA (sa_cons (se_var 1) (sa_cons se_int sa_nil))))
      (sss_cons (ss_for PassesOwn.never rfl (si_range1 (by rfl) z_range (sa_cons (se_ix (hu_of hr) (se_lstF (sa_cons se_int (sa_cons se_int sa_nil))) (se_call (n := 2) G__law_next (hr.mono (by decide)) (by rfl) D__law_next.m D__law_next.fn.kp D__law_next.b passA (sa_cons (se_var 1) (sa_cons se_int sa_nil))) (fun _ _ => rfl)) sa_nil)) (sg_name 3 sc_law.nd) (sss_one (ss_set 2 sc_law.nd (se_tup (sa_cons (se_var 3) (sa_cons (se_var 2) sa_nil))))))
      (sss_cons (ss_for PassesOwn.never rfl (si_seq (se_lstF (sa_cons (se_var 2) (sa_cons (se_tup (sa_cons (se_mulS se_str se_int) (sa_cons (se_neg se_int) sa_nil))) (sa_cons (se_mul (se_mul (se_mul (se_pow se_int se_int) (se_pow se_int se_int)) (se_pow se_int se_int)) (se_pow se_int se_int)) sa_nil))))) (sg_name 4 sc_law.nd) (sss_cons (ss_set 5 sc_law.nd (se_call (n := 1) G_write (hr.mono (by decide)) (by rfl) D_write.m D_write.fn.kp D_write.b passA (sa_cons (se_var 4) sa_nil)))
      (sss_one (ss_if (st_w (sw_or (st_not (st_truth (se_isi (se_var 5) (by rfl) z_isinstance (by rfl) z_str (by decide +kernel)))) (sw_or (st_cmp (op_neDD hr.units) (se_var 5) (se_call (n := 1) G__law_written (hr.mono (by decide)) (by rfl) D__law_written.m D__law_written.fn.kp D__law_written.b passA (sa_cons (se_var 4) sa_nil)) (by first | exact nomark _ | rfl)) (sw_or1 (st_not (st_truth (se_call (n := 2) G__law_same (hr.mono (by decide)) (by rfl) D__law_same.m D__law_same.fn.kp D__law_same.b passA (sa_cons (se_call (n := 1) G_read (hr.mono (by decide)) (by rfl) D_read.m D_read.fn.kp D_read.b passA (sa_cons (se_var 5) sa_nil)) (sa_cons (se_var 4) sa_nil))))))))) (sss_one (ss_ret se_bl)) sss_nil))))
      (sss_one (ss_ret se_bl))))))
end

set_option maxHeartbeats 0 in
theorem all_mk {l : PySem.W.OpenLaw} {w : World} {K : PySem.W.Frag} {h : Heap} {mg : Str → Option Value} {fa : Addr} (X : K.In h) (G : h.Ns mainGlobals mg) (hfa : mg "law" = some (.ref fa))
    (a__law_pot : DefIn K "_law_pot" s__law_pot)
    (a__law_next : DefIn K "_law_next" s__law_next)
    (a__law_thing : DefIn K "_law_thing" s__law_thing)
    (a__digits : DefIn K "_digits" s__digits)
    (a_write : DefIn K "write" s_write)
    (a__law_written : DefIn K "_law_written" s__law_written)
    (a__digits_at : DefIn K "_digits_at" s__digits_at)
    (a__integer : DefIn K "_integer" s__integer)
    (a__thing_at : DefIn K "_thing_at" s__thing_at)
    (a__tuple_at : DefIn K "_tuple_at" s__tuple_at)
    (a_read : DefIn K "read" s_read)
    (a__law_is_int : DefIn K "_law_is_int" s__law_is_int)
    (a__law_same : DefIn K "_law_same" s__law_same)
    (a_law : DefIn K "law" s_law)
    (z_int : PySem.W.nsIn K mainGlobals "int" = some none)
    (z_list : PySem.W.nsIn K mainGlobals "list" = some none)
    (z_len : PySem.W.nsIn K mainGlobals "len" = some none)
    (z_abs : PySem.W.nsIn K mainGlobals "abs" = some none)
    (z_range : PySem.W.nsIn K mainGlobals "range" = some none)
    (z_tuple : PySem.W.nsIn K mainGlobals "tuple" = some none)
    (z_divmod : PySem.W.nsIn K mainGlobals "divmod" = some none)
    (z_str : PySem.W.nsIn K mainGlobals "str" = some none)
    (z_isinstance : PySem.W.nsIn K mainGlobals "isinstance" = some none)
    (z_bool : PySem.W.nsIn K mainGlobals "bool" = some none)
    (z_all : PySem.W.nsIn K mainGlobals "all" = some none)
    (k_BLOCK : ∃ t, PySem.W.nsIn K mainGlobals "BLOCK" = some (some (.int (10000000000000000000000000000000000000000000000000000000000000000) t)))
    (k_DIGITS_OF_BLOCK : ∃ t, PySem.W.nsIn K mainGlobals "DIGITS_OF_BLOCK" = some (some (.int (64) t)))
    (k_LONGEST_INTEGER : ∃ t, PySem.W.nsIn K mainGlobals "LONGEST_INTEGER" = some (some (.int (200) t)))
    (k_LONGEST_LENGTH : ∃ t, PySem.W.nsIn K mainGlobals "LONGEST_LENGTH" = some (some (.int (2) t)))
    (k_MOST_DEEP : ∃ t, PySem.W.nsIn K mainGlobals "MOST_DEEP" = some (some (.int (40) t)))
    : ∃ fd : FuncData, (∀ (s : Shared) (v : Value), BindsTo s fd ⟨[v], []⟩ [("script", v)]) ∧ ∀ base : Heap, K.In base → base.Ns mainGlobals mg → FnOk l.prog w K mg base CX0 28 fa fd ["script"] (spM K 1 F_law) := by
  obtain ⟨f__law_pot, fd__law_pot, D__law_pot, bt__law_pot⟩ := a__law_pot.get ["script"] X G (fun _ _ _ _ _ _ us hl => match us, hl with | [_], _ => rfl)
  obtain ⟨f__law_next, fd__law_next, D__law_next, bt__law_next⟩ := a__law_next.get ["pot", "limit"] X G (fun _ _ _ _ _ _ us hl => match us, hl with | [_, _], _ => rfl)
  obtain ⟨f__law_thing, fd__law_thing, D__law_thing, bt__law_thing⟩ := a__law_thing.get ["pot", "depth"] X G (fun _ _ _ _ _ _ us hl => match us, hl with | [_, _], _ => rfl)
  obtain ⟨f__digits, fd__digits, D__digits, bt__digits⟩ := a__digits.get ["n"] X G (fun _ _ _ _ _ _ us hl => match us, hl with | [_], _ => rfl)
  obtain ⟨f_write, fd_write, D_write, bt_write⟩ := a_write.get ["thing"] X G (fun _ _ _ _ _ _ us hl => match us, hl with | [_], _ => rfl)
  obtain ⟨f__law_written, fd__law_written, D__law_written, bt__law_written⟩ := a__law_written.get ["thing"] X G (fun _ _ _ _ _ _ us hl => match us, hl with | [_], _ => rfl)
  obtain ⟨f__digits_at, fd__digits_at, D__digits_at, bt__digits_at⟩ := a__digits_at.get ["text", "at"] X G (fun _ _ _ _ _ _ us hl => match us, hl with | [_, _], _ => rfl)
  obtain ⟨f__integer, fd__integer, D__integer, bt__integer⟩ := a__integer.get ["digits", "most"] X G (fun _ _ _ _ _ _ us hl => match us, hl with | [_, _], _ => rfl)
  obtain ⟨f__thing_at, fd__thing_at, D__thing_at, bt__thing_at⟩ := a__thing_at.get ["text", "at", "depth"] X G (fun _ _ _ _ _ _ us hl => match us, hl with | [_, _, _], _ => rfl)
  obtain ⟨f__tuple_at, fd__tuple_at, D__tuple_at, bt__tuple_at⟩ := a__tuple_at.get ["text", "at", "depth"] X G (fun _ _ _ _ _ _ us hl => match us, hl with | [_, _, _], _ => rfl)
  obtain ⟨f_read, fd_read, D_read, bt_read⟩ := a_read.get ["text"] X G (fun _ _ _ _ _ _ us hl => match us, hl with | [_], _ => rfl)
  obtain ⟨f__law_is_int, fd__law_is_int, D__law_is_int, bt__law_is_int⟩ := a__law_is_int.get ["value"] X G (fun _ _ _ _ _ _ us hl => match us, hl with | [_], _ => rfl)
  obtain ⟨f__law_same, fd__law_same, D__law_same, bt__law_same⟩ := a__law_same.get ["found", "value"] X G (fun _ _ _ _ _ _ us hl => match us, hl with | [_, _], _ => rfl)
  obtain ⟨f_law, fd_law, D_law, bt_law⟩ := a_law.get ["script"] X G (fun _ _ _ _ _ _ us hl => match us, hl with | [_], _ => rfl)
  have e := hfa.symm.trans D_law.m
  cases e
  have z_int := PySem.W.mg_none_of X G z_int
  have z_list := PySem.W.mg_none_of X G z_list
  have z_len := PySem.W.mg_none_of X G z_len
  have z_abs := PySem.W.mg_none_of X G z_abs
  have z_range := PySem.W.mg_none_of X G z_range
  have z_tuple := PySem.W.mg_none_of X G z_tuple
  have z_divmod := PySem.W.mg_none_of X G z_divmod
  have z_str := PySem.W.mg_none_of X G z_str
  have z_isinstance := PySem.W.mg_none_of X G z_isinstance
  have z_bool := PySem.W.mg_none_of X G z_bool
  have z_all := PySem.W.mg_none_of X G z_all
  have k_BLOCK := let ⟨t, q⟩ := k_BLOCK; (⟨t, PySem.W.mg_of X G q⟩ : ∃ t, mg "BLOCK" = some _)
  have k_DIGITS_OF_BLOCK := let ⟨t, q⟩ := k_DIGITS_OF_BLOCK; (⟨t, PySem.W.mg_of X G q⟩ : ∃ t, mg "DIGITS_OF_BLOCK" = some _)
  have k_LONGEST_INTEGER := let ⟨t, q⟩ := k_LONGEST_INTEGER; (⟨t, PySem.W.mg_of X G q⟩ : ∃ t, mg "LONGEST_INTEGER" = some _)
  have k_LONGEST_LENGTH := let ⟨t, q⟩ := k_LONGEST_LENGTH; (⟨t, PySem.W.mg_of X G q⟩ : ∃ t, mg "LONGEST_LENGTH" = some _)
  have k_MOST_DEEP := let ⟨t, q⟩ := k_MOST_DEEP; (⟨t, PySem.W.mg_of X G q⟩ : ∃ t, mg "MOST_DEEP" = some _)
  refine ⟨fd_law, fun s v => bt_law s [v] rfl, fun base _ _ => ?_⟩
  have G__law_pot := ok__law_pot (P := l.prog) (w := w) (base := base) D__law_pot z_int z_list
  have G__law_next := ok__law_next (P := l.prog) (w := w) (base := base) D__law_next z_len z_int z_abs
  have G__law_thing := ok__law_thing (P := l.prog) (w := w) (base := base) D__law_thing D__law_next G__law_next z_range z_tuple
  have G__digits := ok__digits (P := l.prog) (w := w) (base := base) D__digits z_divmod z_str k_BLOCK k_DIGITS_OF_BLOCK
  have G_write := ok_write (P := l.prog) (w := w) (base := base) D_write D__digits G__digits z_isinstance z_tuple z_str z_len
  have G__law_written := ok__law_written (P := l.prog) (w := w) (base := base) D__law_written z_isinstance z_int z_str z_len
  have G__digits_at := ok__digits_at (P := l.prog) (w := w) (base := base) D__digits_at
  have G__integer := ok__integer (P := l.prog) (w := w) (base := base) D__integer z_len z_int
  have G__thing_at := ok__thing_at (P := l.prog) (w := w) (base := base) D__thing_at D__tuple_at D__digits_at G__digits_at D__integer G__integer z_len z_tuple k_LONGEST_INTEGER k_LONGEST_LENGTH k_MOST_DEEP
  have G__tuple_at := ok__tuple_at (P := l.prog) (w := w) (base := base) D__thing_at D__tuple_at D__digits_at G__digits_at D__integer G__integer z_len z_tuple k_LONGEST_INTEGER k_LONGEST_LENGTH k_MOST_DEEP
  have G_read := ok_read (P := l.prog) (w := w) (base := base) D_read D__thing_at G__thing_at z_len
  have G__law_is_int := ok__law_is_int (P := l.prog) (w := w) (base := base) D__law_is_int z_isinstance z_int z_bool
  have G__law_same := ok__law_same (P := l.prog) (w := w) (base := base) D__law_same D__law_is_int G__law_is_int z_isinstance z_bool z_int z_str z_list z_tuple z_len z_range z_all
  exact ok_law D_law D__law_pot G__law_pot D__law_thing G__law_thing D__law_next G__law_next D_write G_write D__law_written G__law_written D_read G_read D__law_same G__law_same z_range z_isinstance z_str


end LAW
namespace LAW
open PySem PySem.Spec PyProof.Rows L2 PL
set_option maxHeartbeats 0 in
theorem hfacts {w : World} {K : PySem.W.Frag} {h h0 : Heap} {mg : Str → Option Value} {f : Addr} (X : K.In h) (G : h.Ns mainGlobals mg) (hfa' : mg ("law" : Str) = some (.ref f)) (c : He.SaysX hfa hfn [] [] hxx w h0 K) :
    ∃ fd : FuncData, (∀ (s : Shared) (v : Value), BindsTo s fd ⟨[v], []⟩ [("script", v)]) ∧ ∀ base : Heap, K.In base → base.Ns mainGlobals mg → FnOk (PySem.Challenge.rw_roomyway_k32_write_and_read).prog w K mg base CX0 28 f fd ["script"] (spM K 1 F_law) := by
  have q := c.t.d
  have qe : (hex.all fun f => f K) = true := c.more
  obtain ⟨_, E__law_pot⟩ := q.def_ 0 (d := ⟨("_law_pot", none), "_law_pot", "_law_pot", defArgs s__law_pot, defBody s__law_pot, defScope s__law_pot, [], []⟩) rfl
  obtain ⟨_, E__law_next⟩ := q.def_ 1 (d := ⟨("_law_next", none), "_law_next", "_law_next", defArgs s__law_next, defBody s__law_next, defScope s__law_next, [], []⟩) rfl
  obtain ⟨_, E__law_thing⟩ := q.def_ 2 (d := ⟨("_law_thing", none), "_law_thing", "_law_thing", defArgs s__law_thing, defBody s__law_thing, defScope s__law_thing, [], []⟩) rfl
  obtain ⟨_, E__digits⟩ := q.def_ 3 (d := ⟨("_digits", none), "_digits", "_digits", defArgs s__digits, defBody s__digits, defScope s__digits, [], []⟩) rfl
  obtain ⟨_, E_write⟩ := q.def_ 4 (d := ⟨("write", none), "write", "write", defArgs s_write, defBody s_write, defScope s_write, [], []⟩) rfl
  obtain ⟨_, E__law_written⟩ := q.def_ 5 (d := ⟨("_law_written", none), "_law_written", "_law_written", defArgs s__law_written, defBody s__law_written, defScope s__law_written, [], []⟩) rfl
  obtain ⟨_, E__digits_at⟩ := q.def_ 6 (d := ⟨("_digits_at", none), "_digits_at", "_digits_at", defArgs s__digits_at, defBody s__digits_at, defScope s__digits_at, [], []⟩) rfl
  obtain ⟨_, E__integer⟩ := q.def_ 7 (d := ⟨("_integer", none), "_integer", "_integer", defArgs s__integer, defBody s__integer, defScope s__integer, [], []⟩) rfl
  obtain ⟨_, E__thing_at⟩ := q.def_ 8 (d := ⟨("_thing_at", none), "_thing_at", "_thing_at", defArgs s__thing_at, defBody s__thing_at, defScope s__thing_at, [], []⟩) rfl
  obtain ⟨_, E__tuple_at⟩ := q.def_ 9 (d := ⟨("_tuple_at", none), "_tuple_at", "_tuple_at", defArgs s__tuple_at, defBody s__tuple_at, defScope s__tuple_at, [], []⟩) rfl
  obtain ⟨_, E_read⟩ := q.def_ 10 (d := ⟨("read", none), "read", "read", defArgs s_read, defBody s_read, defScope s_read, [], []⟩) rfl
  obtain ⟨_, E__law_is_int⟩ := q.def_ 11 (d := ⟨("_law_is_int", none), "_law_is_int", "_law_is_int", defArgs s__law_is_int, defBody s__law_is_int, defScope s__law_is_int, [], []⟩) rfl
  obtain ⟨_, E__law_same⟩ := q.def_ 12 (d := ⟨("_law_same", none), "_law_same", "_law_same", defArgs s__law_same, defBody s__law_same, defScope s__law_same, [], []⟩) rfl
  obtain ⟨_, E_law⟩ := q.def_ 13 (d := ⟨("law", none), "law", "law", defArgs s_law, defBody s_law, defScope s_law, [], []⟩) rfl
  exact all_mk (l := PySem.Challenge.rw_roomyway_k32_write_and_read) X G hfa' (PL.defIn_of E__law_pot (q.fact 0 (f := .glo "_law_pot") rfl)) (PL.defIn_of E__law_next (q.fact 1 (f := .glo "_law_next") rfl)) (PL.defIn_of E__law_thing (q.fact 2 (f := .glo "_law_thing") rfl)) (PL.defIn_of E__digits (q.fact 3 (f := .glo "_digits") rfl)) (PL.defIn_of E_write (q.fact 4 (f := .glo "write") rfl)) (PL.defIn_of E__law_written (q.fact 5 (f := .glo "_law_written") rfl)) (PL.defIn_of E__digits_at (q.fact 6 (f := .glo "_digits_at") rfl)) (PL.defIn_of E__integer (q.fact 7 (f := .glo "_integer") rfl)) (PL.defIn_of E__thing_at (q.fact 8 (f := .glo "_thing_at") rfl)) (PL.defIn_of E__tuple_at (q.fact 9 (f := .glo "_tuple_at") rfl)) (PL.defIn_of E_read (q.fact 10 (f := .glo "read") rfl)) (PL.defIn_of E__law_is_int (q.fact 11 (f := .glo "_law_is_int") rfl)) (PL.defIn_of E__law_same (q.fact 12 (f := .glo "_law_same") rfl)) (PL.defIn_of E_law (q.fact 13 (f := .glo "law") rfl)) (PL.free_in (q.fact 14 (f := .free "int") rfl)) (PL.free_in (q.fact 15 (f := .free "list") rfl)) (PL.free_in (q.fact 16 (f := .free "len") rfl)) (PL.free_in (q.fact 17 (f := .free "abs") rfl)) (PL.free_in (q.fact 18 (f := .free "range") rfl)) (PL.free_in (q.fact 19 (f := .free "tuple") rfl)) (PL.free_in (q.fact 20 (f := .free "divmod") rfl)) (PL.free_in (q.fact 21 (f := .free "str") rfl)) (PL.free_in (q.fact 22 (f := .free "isinstance") rfl)) (PL.free_in (q.fact 23 (f := .free "bool") rfl)) (PL.free_in (q.fact 24 (f := .free "all") rfl)) (PL.int_in (q.fact 25 (f := .int "BLOCK" (10000000000000000000000000000000000000000000000000000000000000000)) rfl)) (PL.int_in (q.fact 26 (f := .int "DIGITS_OF_BLOCK" (64)) rfl)) (PL.int_in (q.fact 27 (f := .int "LONGEST_INTEGER" (200)) rfl)) (PL.int_in (q.fact 28 (f := .int "LONGEST_LENGTH" (2)) rfl)) (PL.int_in (q.fact 29 (f := .int "MOST_DEEP" (40)) rfl))
end LAW
open PySem PySem.W PySem.Calls PyProof.Rows
set_option maxHeartbeats 0 in
theorem PySem.Challenge.cw_roomyway_k32_write_and_read_holds : PySem.Challenge.rw_roomyway_k32_write_and_read.Holds := by
  w_on; o_law
  refine HandSHeadRun.head_any (r := OpenLaw.row PySem.Challenge.rw_roomyway_k32_write_and_read) (q := view (OpenLaw.row PySem.Challenge.rw_roomyway_k32_write_and_read).prog [23]) (H := LAW.hk) (ob := LAW.hob) (M := 20000) (loose := LAW.hnames) (d := HandSHeadRun.topDef (OpenLaw.row PySem.Challenge.rw_roomyway_k32_write_and_read).prog 23) (kwd := []) LAW.hob_eq
    (by kernel_rfl) (fun s => by kernel_rfl) LAW.hrun (by kernel_rfl) (by kernel_rfl) (by kernel_rfl) (by rfl) (by first | assumption | decide +kernel) (by decide +kernel) ⟨rfl, rfl, rfl, rfl, rfl, by decide +kernel⟩ ?hw ?hc
  case hw => w_witness2
  case hc =>
    refine L2.walk_ofE (l := PySem.Challenge.rw_roomyway_k32_write_and_read) (n := 63) (k := 28) (x := "script") (CX := L2.CX0) rfl (by decide) (by kernel_rfl) ⟨rfl, by decide, by decide⟩ ?F (fun _ _ _ _ z => z)
    intro w mg fa h Y G hmg0
    obtain ⟨K, KX, c⟩ := Y
    have hmg : mg ("law" : PySem.Str) = some (.ref fa) := by
      have e : (HandSHeadRun.topDef (OpenLaw.row PySem.Challenge.rw_roomyway_k32_write_and_read).prog 23).name = ("law" : PySem.Str) := by kernel_rfl
      rw [← e]
      exact hmg0
    obtain ⟨fd, hb, hF⟩ := LAW.hfacts (w := w) KX G hmg c
    exact ⟨K, fd, PL.spM K 1 LAW.F_law, KX, hb, fun H a ns hl hO hS => PL.law_end hO hS (LAW.law_true ns hl), hF⟩
