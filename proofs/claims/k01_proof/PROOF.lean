import PyProof.Rows.All
import Wide.All
import OpenK.AllK
import Wide.FinOn
import Lean
import PyProof.EqAt
import PyProof.EqKinds
import PyProof.TupleCall
import KE.KTryMore
import KE.KIsAll
import KE.KRevSl
import PyProof.ExcArgsOwn
import PySem.Challenge.RW_chessclock_k01_bad_stages
set_option Elab.async false
set_option linter.all false
set_option maxRecDepth 100000
namespace L2
open PySem PySem.Spec PyProof.Rows

/-- a key: an int or a str -/
abbrev Key := Sum Int Str
def keyIs : Key → Value → Bool
  | .inl k, v => Value.isInt k v
  | .inr x, v => Value.isStrOf x v
def keyH (w : World) : Key → Int
  | .inl k => hashInt k
  | .inr x => hashStr w x
theorem keyIs_shape : ∀ {k : Key} {v : Value}, keyIs k v = true → (∃ i t, k = Sum.inl i ∧ v = Value.int i t) ∨ (∃ x t, k = Sum.inr x ∧ v = Value.str x t)
  | .inl i, v, h => by
    obtain ⟨t, e⟩ := Value.isInt_shape (k := i) (v := v) h
    exact .inl ⟨i, t, rfl, e⟩
  | .inr x, v, h => by
    obtain ⟨t, e⟩ := Value.isStrOf_shape (x := x) (v := v) h
    exact .inr ⟨x, t, rfl, e⟩
theorem key_ll (a b : Int) : decide ((Sum.inl a : Key) = Sum.inl b) = (a == b) := by
  by_cases e : a = b
  · subst e; simp
  · have h : ¬ (Sum.inl a : Key) = Sum.inl b := fun q => e (Sum.inl.inj q)
    rw [decide_eq_false h]
    exact (beq_eq_false_iff_ne.mpr e).symm
theorem key_rr (a b : Str) : decide ((Sum.inr a : Key) = Sum.inr b) = decide (a = b) := by
  by_cases e : a = b
  · subst e; simp
  · have h : ¬ (Sum.inr a : Key) = Sum.inr b := fun q => e (Sum.inr.inj q)
    rw [decide_eq_false h, decide_eq_false e]
theorem key_lr (a : Int) (b : Str) : decide ((Sum.inl a : Key) = Sum.inr b) = false := decide_eq_false (fun q => nomatch q)
theorem key_rl (a : Str) (b : Int) : decide ((Sum.inr a : Key) = Sum.inl b) = false := decide_eq_false (fun q => nomatch q)

def mixKind (prog : Program) (w : World) : PySem.KeyKind prog w Key where
  is := keyIs
  hash := keyH w
  inj := fun v a b ha hb => by
    rcases keyIs_shape ha with ⟨i, t, rfl, rfl⟩ | ⟨x, t, rfl, rfl⟩
    · rcases keyIs_shape hb with ⟨j, u, rfl, e⟩ | ⟨y, u, rfl, e⟩
      · injection e with e1 _; rw [e1]
      · exact nomatch e
    · rcases keyIs_shape hb with ⟨j, u, rfl, e⟩ | ⟨y, u, rfl, e⟩
      · exact nomatch e
      · injection e with e1 _; rw [e1]
  byValue := fun k v h => by
    rcases keyIs_shape h with ⟨i, t, rfl, rfl⟩ | ⟨x, t, rfl, rfl⟩ <;> rfl
  pyHash := fun hv h => by
    rcases keyIs_shape hv with ⟨i, t, rfl, rfl⟩ | ⟨x, t, rfl, rfl⟩
    · exact wpAny_pyHash_int h
    · exact wpAny_pyHash_str h
  eqBool := fun hu hv h => by
    rcases keyIs_shape hu with ⟨i, t, rfl, rfl⟩ | ⟨x, t, rfl, rfl⟩
    · rcases keyIs_shape hv with ⟨j, u, rfl, rfl⟩ | ⟨y, u, rfl, rfl⟩
      · rw [key_ll] at h; exact wpAny_eqBool_int h
      · rw [key_lr] at h; exact SeqAt.EqAt.int_str i t y u _ _ _ _ h
    · rcases keyIs_shape hv with ⟨j, u, rfl, rfl⟩ | ⟨y, u, rfl, rfl⟩
      · rw [key_rl] at h; exact SeqAt.EqAt.str_int x t j u _ _ _ _ h
      · rw [key_rr] at h; exact wpAny_eqBool_str h
  «strs» := fun k x t v h => by
    rcases keyIs_shape h with ⟨i, u, rfl, e⟩ | ⟨y, u, rfl, e⟩
    · exact nomatch e
    · injection e with e1 _
      subst e1
      cases v <;> rfl

end L2

namespace L2
open PySem PySem.Spec PyProof.Rows

/-- a value, without the heap -/
inductive V where
  | non | bl (b : Bool) | int (i : Int) | str (x : Str) | byt (b : Array UInt8) | flt (b : UInt64) | ref (a : Addr) | ty (n : String)
  deriving DecidableEq

def RelV : V → Value → Prop
  | .non, u => u = Value.none
  | .bl b, u => u = Value.bool b
  | .int i, u => ∃ t, u = Value.int i t
  | .str x, u => ∃ t, u = Value.str x t
  | .byt b, u => ∃ t, u = Value.bytes b t
  | .flt b, u => ∃ t, u = Value.float b t
  | .ref a, u => u = Value.ref a
  | .ty n, u => u = Value.type n

abbrev Vals : List V → List Value → Prop := Paired RelV
theorem Vals.length {xs : List V} {us : List Value} (r : Vals xs us) : xs.length = us.length := Paired.length r
theorem Vals.get : ∀ {xs : List V} {us : List Value} {i : Nat} {x : V}, Vals xs us → xs[i]? = some x → ∃ u, us[i]? = some u ∧ RelV x u
  | _, _, _, _, .nil, e => by simp at e
  | _, _, 0, _, .cons r _, e => by simp at e; subst e; exact ⟨_, rfl, r⟩
  | _, _, i + 1, x, .cons _ t, e => by
    obtain ⟨u, h1, h2⟩ := Vals.get (i := i) (x := x) t (by simpa using e)
    exact ⟨u, by simpa using h1, h2⟩
theorem Vals.set {x : V} {u : Value} (r : RelV x u) : ∀ {xs : List V} {us : List Value} (i : Nat), Vals xs us → Vals (xs.set i x) (us.set i u)
  | _, _, _, .nil => .nil
  | _, _, 0, .cons _ t => .cons r t
  | _, _, i + 1, .cons q t => .cons q (Vals.set r i t)
theorem Vals.append : ∀ {xs ys : List V} {us ws : List Value}, Vals xs us → Vals ys ws → Vals (xs ++ ys) (us ++ ws)
  | _, _, _, _, .nil, s => s
  | _, _, _, _, .cons r t, s => .cons r (Vals.append t s)
theorem Vals.take : ∀ {xs : List V} {us : List Value} (n : Nat), Vals xs us → Vals (xs.take n) (us.take n)
  | _, _, 0, _ => .nil
  | _, _, _ + 1, .nil => .nil
  | _, _, n + 1, .cons r t => .cons r (Vals.take n t)
theorem Vals.drop : ∀ {xs : List V} {us : List Value} (n : Nat), Vals xs us → Vals (xs.drop n) (us.drop n)
  | _, _, 0, r => r
  | _, _, _ + 1, .nil => .nil
  | _, _, n + 1, .cons _ t => Vals.drop n t
def RelO : Option V → Option Value → Prop
  | some v, some u => RelV v u
  | none, none => True
  | _, _ => False
def KV {κ : Type} : List (κ × V) → List (κ × Value) → Prop := Paired fun (p : κ × V) (q : κ × Value) => p.1 = q.1 ∧ RelV p.2 q.2

/-- a key of a dict (00_mix): an int or a text -/
def kV : Key → V
  | .inl i => .int i
  | .inr x => .str x

/-- what stands at a tracked address -/
inductive HO where
  /-- a list -/
  | lst (xs : List V)
  /-- a tuple (never changes) -/
  | tup (xs : List V)
  /-- a dict whose keys are ints and texts; one whose keys are tuples of ints and texts (the empty one is both) -/
  | dK (kvs : List (Key × V)) | dT (kvs : List (List Key × V))
  /-- a set of ints: its members, its size -/
  | set (S : Int → Bool) (n : Nat)
  /-- an instance of the class at C, its dict at dx, its attributes -/
  | ins (C dx : Addr) (fs : List (Str × V))
  /-- the dict of the instance at x -/
  | own (x : Addr)
  /-- the dict of an exception -/
  | xd (fs : List (Str × V))
  /-- a bound method, f of x -/
  | met (f x : Addr)
  /-- a range object lo, lo + 1, .. below hi -/
  | rng (lo hi : Int)
  /-- a thing that is known to the object (the script; a dict while a loop walks it): read, never written while it is so -/
  | frz (o : Obj) (u : HO)
  /-- a code object's table -/
  | tbl (ps : Array Value)
  /-- any other thing, by what is true of its one object (a def of one's own: SetO a S n := HO.ext fun h => ..) -/
  | ext (φ : Heap → Prop)

abbrev Hp := Addr → Option HO
def upd (H : Hp) (a : Addr) (o : HO) : Hp := fun b => if b = a then some o else H b
theorem upd_same {H : Hp} {a : Addr} {o : HO} : upd H a o a = some o := by unfold upd; rw [if_pos rfl]
theorem upd_ne {H : Hp} {a b : Addr} {o : HO} (h : b ≠ a) : upd H a o b = H b := by unfold upd; rw [if_neg h]
theorem upd_upd {H : Hp} {a : Addr} {o u : HO} : upd (upd H a o) a u = upd H a u := by
  funext b; unfold upd; split <;> rfl
/-- two objects of different content stand apart -/
theorem ne_of {H : Hp} {a b : Addr} {o u : HO} (h : H a = some o) (h' : H b = some u) (d : o ≠ u) : a ≠ b := by
  intro e; subst e; rw [h] at h'; exact d (Option.some.inj h')
theorem ne_of_none {H : Hp} {a b : Addr} {o : HO} (h : H a = some o) (h' : H b = none) : a ≠ b := by
  intro e; subst e; rw [h] at h'; cases h'

section
variable (P : Program) (w : World)
def ObjOk (H : Hp) (h : Heap) (a : Addr) : HO → Prop
  | .lst xs => xs.length ≤ sizeLine ∧ ∃ (its : List Value) (n : Nat), Vals xs its ∧ h.get? a = some { cls := .type "list", data := .seq its.toArray n }
  | .tup xs => xs.length ≤ sizeLine ∧ ∃ its : List Value, Vals xs its ∧ IsTup h a its.toArray
  | .dK kvs => kvs.length ≤ sizeLine ∧ (a == sysModules) = false ∧ ∃ vs, KV kvs vs ∧ h.DictOf (mixKind P w) a vs
  | .dT kvs => kvs.length ≤ sizeLine ∧ (a == sysModules) = false ∧ ∃ xs : List (List Key × Addr × Value),
      Paired (fun (p : List Key × V) (q : List Key × Addr × Value) => p.1 = q.1 ∧ H q.2.1 = some (.tup (p.1.map kV)) ∧ RelV p.2 q.2.2) kvs xs ∧
      ∃ o es ep, h.get? a = some o ∧ o.ExactDict ∧ o.data = .dict es ep ∧ es.toList = xs.map (entryOfKey (tupleKind (mixKind P w))) ∧ (xs.map (·.1)).Nodup
  | .set S n => h.SetOf (intKind P w) a S n
  | .ins C dx fs => H dx = some (.own a) ∧ fs.length ≤ 1000 ∧ dx ≠ a ∧ h.get? a = some (PySem.W.instObj C dx) ∧
      ∃ mA, h.Ns1 dx mA ∧ (∀ f, RelO (fs.lookup f) (mA f)) ∧ PySem.Within mA (fs.map (·.1))
  | .own _ => ∃ o, h.get? a = some o
  | .xd fs => ∃ mA, h.Ns1 a mA ∧ ∀ f, RelO (fs.lookup f) (mA f)
  | .rng lo hi => ∃ t u v, h.get? a = some { cls := .type "range", data := .fields #[.int lo t, .int hi u, .int 1 v] }
  | .frz o u => h.get? a = some o ∧ ObjOk H h a u
  | .tbl ps => h.get? a = some { cls := .none, data := .fields ps }
  | .met f x => h.get? a = some (PySem.W.methodObj (.ref f) (.ref x))
  | .ext φ => φ h ∧ (∃ o, h.get? a = some o) ∧ ∀ h1 h2 : Heap, φ h1 → (∀ o, h1.get? a = some o → h2.get? a = some o) → φ h2
/-- the abstract heap is held -/
def HOk (H : Hp) (h : Heap) : Prop := ∀ a o, H a = some o → ObjOk P w H h a o
end

section
variable {P : Program} {w : World} {H H' : Hp} {h h' : Heap} {a : Addr} {o : HO}
theorem ObjOk.lt (x : ObjOk P w H h a o) : a < h.objs.size := by
  cases o with
  | lst xs => obtain ⟨_, _, _, _, e⟩ := x; exact Heap.lt_size e
  | tup xs => obtain ⟨_, _, _, p⟩ := x; exact p.lt
  | dK kvs => obtain ⟨_, _, _, _, o, _, _, e, _⟩ := x; exact Heap.lt_size e
  | dT kvs => obtain ⟨_, _, _, _, o, _, _, e, _⟩ := x; exact Heap.lt_size e
  | set S n => obtain ⟨o, _, _, _, e, _⟩ := x; exact Heap.lt_size e
  | ins C dx fs => obtain ⟨_, _, _, e, _⟩ := x; exact Heap.lt_size e
  | own y => obtain ⟨_, e⟩ := x; exact Heap.lt_size e
  | xd fs => obtain ⟨_, ⟨_, _, _, e, _⟩, _⟩ := x; exact Heap.lt_size e
  | rng lo hi => obtain ⟨_, _, _, e⟩ := x; exact Heap.lt_size e
  | frz ob u => obtain ⟨e, _⟩ := x; exact Heap.lt_size e
  | tbl ps => exact Heap.lt_size (show h.get? a = some _ from x)
  | met f y => exact Heap.lt_size (show h.get? a = some _ from x)
  | ext φ => obtain ⟨_, ⟨_, e⟩, _⟩ := x; exact Heap.lt_size e
theorem Paired.mapP {α β : Type} {F G : α → β → Prop} : ∀ {l₁ : List α} {l₂ : List β}, Paired F l₁ l₂ → (∀ a b, F a b → G a b) → Paired G l₁ l₂
  | _, _, .nil, _ => .nil
  | _, _, .cons r t, f => .cons (f _ _ r) (Paired.mapP t f)
/-- what an object's description leans on: its own object, its own dict, the tuples -/
theorem ObjOk.stay (x : ObjOk P w H h a o) (k : ∀ b u, (b = a ∨ H b = some (.own a)) → h.get? b = some u → h'.get? b = some u)
    (ho : ∀ b, H b = some (.own a) → H' b = some (.own a)) (ht : ∀ b xs, H b = some (.tup xs) → H' b = some (.tup xs)) : ObjOk P w H' h' a o := by
  induction o with
  | lst xs => obtain ⟨z, its, n, r, e⟩ := x; exact ⟨z, its, n, r, k _ _ (.inl rfl) e⟩
  | tup xs => obtain ⟨z, its, r, ob, e, c⟩ := x; exact ⟨z, its, r, ob, k _ _ (.inl rfl) e, c⟩
  | dK kvs => obtain ⟨z, y, vs, r, ob, es, ep, e, c⟩ := x; exact ⟨z, y, vs, r, ob, es, ep, k _ _ (.inl rfl) e, c⟩
  | dT kvs =>
    obtain ⟨z, y, xs, r, ob, es, ep, e, c⟩ := x
    exact ⟨z, y, xs, Paired.mapP r fun p q z => ⟨z.1, ht _ _ z.2.1, z.2.2⟩, ob, es, ep, k _ _ (.inl rfl) e, c⟩
  | set S n => obtain ⟨ob, es, ep, t, e, c⟩ := x; exact ⟨ob, es, ep, t, k _ _ (.inl rfl) e, c⟩
  | ins C dx fs =>
    obtain ⟨d, z, ne, e, mA, ⟨od, es, ep, e2, c⟩, r⟩ := x
    exact ⟨ho _ d, z, ne, k _ _ (.inl rfl) e, mA, ⟨od, es, ep, k _ _ (.inr d) e2, c⟩, r⟩
  | own y => obtain ⟨ob, e⟩ := x; exact ⟨ob, k _ _ (.inl rfl) e⟩
  | xd fs => obtain ⟨mA, ⟨od, es, ep, e, c⟩, r⟩ := x; exact ⟨mA, ⟨od, es, ep, k _ _ (.inl rfl) e, c⟩, r⟩
  | rng lo hi => obtain ⟨t, u, v, e⟩ := x; exact ⟨t, u, v, k _ _ (.inl rfl) e⟩
  | frz ob u ih => obtain ⟨e, q⟩ := x; exact ⟨k _ _ (.inl rfl) e, ih q⟩
  | tbl ps =>
    have e : h.get? a = some { cls := .none, data := .fields ps } := x
    show h'.get? a = some { cls := .none, data := .fields ps }
    exact k a _ (.inl rfl) e
  | met f y =>
    have e : h.get? a = some (PySem.W.methodObj (.ref f) (.ref y)) := x
    show h'.get? a = some (PySem.W.methodObj (.ref f) (.ref y))
    exact k a _ (.inl rfl) e
  | ext φ => obtain ⟨p, ⟨o, e⟩, st⟩ := x; exact ⟨st _ _ p fun o q => k _ _ (.inl rfl) q, ⟨o, k _ _ (.inl rfl) e⟩, st⟩
theorem HOk.lt (x : HOk P w H h) (e : H a = some o) : a < h.objs.size := (x a o e).lt
theorem HOk.fresh (x : HOk P w H h) (e : h.objs.size ≤ a) : H a = none := by
  cases q : H a with
  | none => rfl
  | some u => exact absurd (Nat.lt_of_lt_of_le (x.lt q) e) (Nat.lt_irrefl _)
/-- every object of the heap is kept -/
theorem HOk.kept (x : HOk P w H h) (k : ∀ b u, h.get? b = some u → h'.get? b = some u) : HOk P w H h' := fun a o e =>
  (x a o e).stay (fun b u _ q => k b u q) (fun _ q => q) fun _ _ q => q
/-- a new object is laid and tracked -/
theorem HOk.laid (x : HOk P w H h) (k : ∀ b u, h.get? b = some u → h'.get? b = some u) (hp : h.objs.size ≤ a) (new : ObjOk P w (upd H a o) h' a o) : HOk P w (upd H a o) h' := fun b u e => by
  have hn := x.fresh hp
  by_cases hb : b = a
  · subst hb; rw [upd_same] at e; cases e; exact new
  · rw [upd_ne hb] at e
    exact (x b u e).stay (fun c v _ q => k c v q) (fun c q => by rw [upd_ne (ne_of_none q hn)]; exact q) fun c xs q => by rw [upd_ne (ne_of_none q hn)]; exact q
end

/-- what may be read as u: it is u, or a known u -/
def Rd (H : Hp) (a : Addr) (u : HO) : Prop := H a = some u ∨ ∃ o, H a = some (.frz o u)
theorem Rd.ok {P : Program} {w : World} {H : Hp} {h : Heap} {a : Addr} {u : HO} (r : Rd H a u) (x : HOk P w H h) : ObjOk P w H h a u := by
  rcases r with r | ⟨o, r⟩
  · exact x a u r
  · obtain ⟨_, q⟩ := x a _ r
    exact q
/-- what may be written -/
def Mut : Option HO → Prop
  | some (.lst _) => True
  | some (.dK _) => True
  | some (.dT _) => True
  | some (.set _ _) => True
  | some (.ins _ _ _) => True
  | some (.ext _) => True
  | _ => False
section
variable {P : Program} {w : World} {H : Hp} {h h' : Heap} {x e : Addr} {o' : HO}
/-- the object at e is changed: x itself, or the dict of the instance x -/
theorem HOk.write (ok : HOk P w H h) (mu : Mut (H x)) (he : e = x ∨ H e = some (.own x)) (k : ∀ b u, b ≠ e → h.get? b = some u → h'.get? b = some u) (heo : ∃ u, h'.get? e = some u)
    (new : ObjOk P w (upd H x o') h' x o') : HOk P w (upd H x o') h' := fun b u q => by
  have nown : ∀ c y, H c = some (.own y) → c ≠ x := fun c y r z => by subst z; rw [r] at mu; exact mu
  have ntup : ∀ c xs, H c = some (.tup xs) → c ≠ x := fun c xs r z => by subst z; rw [r] at mu; exact mu
  by_cases hb : b = x
  · subst hb; rw [upd_same] at q; cases q; exact new
  · rw [upd_ne hb] at q
    by_cases hbe : b = e
    · have q' : H b = some (.own x) := by
        rcases he with z | z
        · exact absurd (hbe.trans z) hb
        · rw [hbe]; exact z
      rw [q] at q'; cases q'
      obtain ⟨v, hv⟩ := heo
      exact ⟨v, by rw [hbe]; exact hv⟩
    · refine (ok b u q).stay (fun c v hc r => k c v ?_ r) (fun c r => by rw [upd_ne (nown c b r)]; exact r) fun c xs r => by rw [upd_ne (ntup c xs r)]; exact r
      rcases hc with rfl | hc
      · exact hbe
      · rintro rfl
        rcases he with z | z
        · exact nown c b hc z
        · rw [hc] at z; cases z; exact hb rfl
end

structure Un (fs ex : List Addr) (H H' : Hp) (h h' : Heap) : Prop where
  keep : ∀ b o, h.get? b = some o → H b = none → b ∉ fs → b ∉ ex → h'.get? b = some o
  slot : ∀ b o, h.get? b = some o → H b = none → b ∈ fs → b ∉ ex → ∃ sl, h'.get? b = some { o with slots := sl }
  free : ∀ b o, h.get? b = some o → H b = none → b ∉ ex → H' b = none
  there : ∀ b o, h.get? b = some o → b ∉ ex → ∃ o', h'.get? b = some o'
  tups : ∀ b xs, H b = some (.tup xs) → H' b = some (.tup xs)
  frzs : ∀ b o u, H b = some (.frz o u) → H' b = some (.frz o u)
  tbls : ∀ b ps, H b = some (.tbl ps) → ∃ more, H' b = some (.tbl (ps ++ more))
section
variable {fs fs' ex ex' : List Addr} {H H1 H2 : Hp} {h h1 h2 h' : Heap} {a x e : Addr} {o : HO}
theorem Un.any (u : Un fs ex H H1 h h1) {b : Addr} {ob : Obj} (q : h.get? b = some ob) (n : H b = none) (hx : b ∉ ex) : ∃ sl, h1.get? b = some { ob with slots := sl } := by
  by_cases hb : b ∈ fs
  · exact u.slot b ob q n hb hx
  · exact ⟨ob.slots, u.keep b ob q n hb hx⟩
theorem Un.kept (k : ∀ b u, h.get? b = some u → h'.get? b = some u) : Un fs ex H H h h' :=
  ⟨fun b ob q _ _ _ => k b ob q, fun b ob q _ _ _ => ⟨ob.slots, k b ob q⟩, fun _ _ _ n _ => n, fun b ob q _ => ⟨ob, k b ob q⟩, fun _ _ q => q, fun _ _ _ q => q, fun _ ps q => ⟨#[], by rw [q]; simp⟩⟩
theorem Un.refl : Un fs ex H H h h := Un.kept fun _ _ q => q
theorem Un.laid (k : ∀ b u, h.get? b = some u → h'.get? b = some u) (hp : h.objs.size ≤ a) (hn : H a = none) : Un fs ex H (upd H a o) h h' where
  keep := fun b u q _ _ _ => k b u q
  slot := fun b u q _ _ _ => ⟨u.slots, k b u q⟩
  free := fun b u q n _ => by rw [upd_ne (Nat.ne_of_lt (Nat.lt_of_lt_of_le (Heap.lt_size q) hp))]; exact n
  there := fun b u q _ => ⟨u, k b u q⟩
  tups := fun b xs q => by rw [upd_ne (ne_of_none q hn)]; exact q
  frzs := fun b u xs q => by rw [upd_ne (ne_of_none q hn)]; exact q
  tbls := fun b ps q => ⟨#[], by rw [upd_ne (ne_of_none q hn), q]; simp⟩
theorem Un.write (mu : Mut (H x)) (he : e = x ∨ H e = some (.own x)) (k : ∀ b u, b ≠ e → h.get? b = some u → h'.get? b = some u) (heo : ∃ u, h'.get? e = some u) : Un fs ex H (upd H x o) h h' := by
  have hx : ∀ b, H b = none → b ≠ x := fun b n z => by subst z; rw [n] at mu; exact mu
  have hb : ∀ b, H b = none → b ≠ e := fun b n z => by
    subst z
    rcases he with r | r
    · exact hx b n r
    · rw [n] at r; cases r
  have hm : ∀ b u, H b = some u → ¬ Mut (some u) → b ≠ x := fun b u q nm z => by subst z; rw [q] at mu; exact nm mu
  refine ⟨fun b u q n _ _ => k b u (hb b n) q, fun b u q n _ _ => ⟨u.slots, k b u (hb b n) q⟩, fun b u q n _ => by rw [upd_ne (hx b n)]; exact n, fun b u q _ => ?_,
    fun b xs q => by rw [upd_ne (hm b _ q fun z => z)]; exact q, fun b u xs q => by rw [upd_ne (hm b _ q fun z => z)]; exact q, fun b ps q => ⟨#[], by rw [upd_ne (hm b _ q fun z => z), q]; simp⟩⟩
  by_cases hbe : b = e
  · subst hbe; exact heo
  · exact ⟨u, k b u hbe q⟩
end

def trk (h : Heap) (H : Hp) : List Addr := (List.range h.objs.size).filter fun a => (H a).isSome
def hidT (h : Heap) (H : Hp) : Heap := PySem.W.hideAll h (trk h H)
theorem hidT_size (h : Heap) (H : Hp) : (hidT h H).objs.size = h.objs.size := PySem.W.hideAll_size _ _
theorem hidT_get {h : Heap} {H : Hp} {b : Addr} {o : Obj} (e : h.get? b = some o) (n : H b = none) : (hidT h H).get? b = some o :=
  PySem.W.hideAll_get _ e fun hm => by
    have q : (H b).isSome = true := (List.mem_filter.mp hm).2
    rw [n] at q; simp at q
theorem of_hidT {h : Heap} {H : Hp} {b : Addr} {o : Obj} (e : (hidT h H).get? b = some o) : h.get? b = some o ∧ H b = none := by
  have e' : h.get? b = some o := PySem.W.of_hideAll (trk h H) e
  refine ⟨e', ?_⟩
  cases q : H b with
  | none => rfl
  | some x =>
    have hm : b ∈ trk h H := List.mem_filter.mpr ⟨List.mem_range.mpr (Heap.lt_size e'), by simp [q]⟩
    have z : (hidT h H).get? b = none := PySem.W.hideAll_none (trk h H) hm
    rw [z] at e; cases e

end L2

namespace L2
open PySem PySem.Spec PyProof.Rows

/-- the module's facts, over the base: the heap at the law's entry without what is tracked there -/
structure Mod (K : PySem.W.Frag) (mg : Str → Option Value) (base : Heap) : Prop where
  kin : K.In base
  glob : base.Ns mainGlobals mg
  blt : ∃ mb, base.Ns builtinsNs mb ∧ ∀ x : Str, x ≠ "__name__" → mb x = bootBuiltins x
  nolimit : base.NoLimit

/-- the context: a def's body (or a comprehension's block) running. base: fixed through the whole law; s₀, H₀: the entry; outer: the frames whose slots others may change (a def's callers); stack: all frames that run;
   ex: iterators that were made ahead of the entry and are walked here (a comprehension's); fn: the names whose cells were made at the entry (a def: all; a comprehension's block: its own); calm: not within an except suite; pn: pins that every state bears; xe: what is wanted of an exception that leaves the code -/
structure Cx where
  prog : Program
  w : World
  K : PySem.W.Frag
  mg : Str → Option Value
  base : Heap
  A : Around
  N : List Str
  s₀ : Shared
  H₀ : Hp
  env : Env
  outer : List Env
  stack : List Env
  ex : List Addr
  fn : Str → Bool
  calm : Bool
  pn : List (Addr × Obj)
  xe : Value → Shared → Prop
/-- the callers' frames -/
def frs (l : List Env) : List Addr := l.filterMap (·.frame)
abbrev Cx.fs (X : Cx) : List Addr := frs X.outer

def Vis (sc : Scope) (x : Str) : Prop := sc.names.lookup x = some .local ∨ sc.names.lookup x = some .cell ∨ sc.names.lookup x = some .free
def Loc (sc : Scope) (x : Str) : Prop := sc.names.lookup x = some .local ∨ sc.names.lookup x = some .cell
def Look (env : Env) (h : Heap) (m : Str → Option Value) (x : Str) (u : Value) : Prop :=
  (env.kindOf x = some .local ∧ m x = some u) ∨ ((env.kindOf x = some .cell ∨ env.kindOf x = some .free) ∧ ∃ c, env.cells.lookup x = some c ∧ h.IsCell c (some u))

structure Cx.Ok (X : Cx) : Prop where
  mod : Mod X.K X.mg X.base
  kind : X.env.scope.kind = .function
  glob : X.env.globals = mainGlobals
  blt : X.env.builtins = builtinsNs
  above : X.s₀.heap.objs.size ≤ X.env.locals
  inj : ∀ x y c, X.env.cells.lookup x = some c → X.env.cells.lookup y = some c → x = y
  has : ∀ x, (X.env.kindOf x = some .cell ∨ X.env.kindOf x = some .free) → ∃ c, X.env.cells.lookup x = some c
  cab : ∀ x c, X.fn x = true → X.env.cells.lookup x = some c → X.s₀.heap.objs.size ≤ c
  hd : X.calm = true → X.A.handled = none
  frames : X.A.frames = some X.stack
  stk : X.stack = X.outer ∨ (X.stack = X.env :: X.outer ∧ X.env.frame = some X.env.locals)
  exf : ∀ b ∈ X.ex, b ≠ X.env.locals ∧ ∀ x c, X.env.cells.lookup x = some c → c ≠ b
  bs : ∀ b o, X.base.get? b = some o → X.s₀.heap.get? b = some o ∧ X.H₀ b = none
  bsz : X.base.objs.size ≤ X.s₀.heap.objs.size
  noex : ∀ b o, X.base.get? b = some o → b ∉ X.ex
  exfs : ∀ b ∈ X.ex, b ∉ X.fs
  funs : X.s₀.heap.FunFrames X.base X.outer
  frf : ∀ b ∈ X.fs, X.H₀ b = none

structure Inv (X : Cx) (pins : List (Addr × Obj)) (σ : List (Option V)) (H : Hp) (s : Shared) : Prop where
  ok : X.Ok
  os : s.os = X.s₀.os
  bare : AllBare s.gens
  base : Un X.fs X.ex X.H₀ H X.s₀.heap s.heap
  loc : ∃ m, s.heap.Ns X.env.locals m ∧ ∀ (i : Nat) (x : Str) (v : V), X.N[i]? = some x → σ[i]? = some (some v) → Vis X.env.scope x → ∃ u, RelV v u ∧ Look X.env s.heap m x u
  cell : ∀ x c, X.env.cells.lookup x = some c → ∃ v, s.heap.IsCell c v
  free : H X.env.locals = none
  freeC : ∀ x c, X.env.cells.lookup x = some c → H c = none
  pin : ∀ p ∈ X.pn ++ pins, s.heap.get? p.1 = some p.2 ∧ H p.1 = none ∧ p.1 ≠ X.env.locals ∧ p.1 ∉ X.fs ∧ ∀ v, p.2.data ≠ .cell v
  hok : HOk X.prog X.w H s.heap
  len : σ.length = X.N.length

section
variable {X : Cx} {pins : List (Addr × Obj)} {σ : List (Option V)} {H H' : Hp} {s : Shared} {h' : Heap}

theorem Cx.Ok.nofr (ok : X.Ok) {b : Addr} {o : Obj} (e : X.base.get? b = some o) : b ∉ X.fs := fun hb => by
  have := (ok.funs.mem hb).1
  rw [e] at this; cases this
theorem Inv.bs (I : Inv X pins σ H s) : ∀ b o, X.base.get? b = some o → s.heap.get? b = some o ∧ H b = none := fun b o e =>
  ⟨I.base.keep b o (I.ok.bs b o e).1 (I.ok.bs b o e).2 (I.ok.nofr e) (I.ok.noex b o e), I.base.free b o (I.ok.bs b o e).1 (I.ok.bs b o e).2 (I.ok.noex b o e)⟩
theorem Inv.bk (I : Inv X pins σ H s) : ∀ b o, X.base.get? b = some o → s.heap.get? b = some o := fun b o e => (I.bs b o e).1
theorem Inv.mod (I : Inv X pins σ H s) : Mod X.K X.mg X.base := I.ok.mod
theorem Inv.kIn (I : Inv X pins σ H s) : X.K.In s.heap := I.ok.mod.kin.keeps I.bk
theorem Inv.lt (I : Inv X pins σ H s) : X.env.locals < s.heap.objs.size := let ⟨_, hn, _⟩ := I.loc; hn.lt
theorem Inv.sz (I : Inv X pins σ H s) : X.s₀.heap.objs.size ≤ s.heap.objs.size := Nat.le_trans I.ok.above (Nat.le_of_lt I.lt)
theorem Inv.nofs (I : Inv X pins σ H s) {a : Addr} (h : s.heap.objs.size ≤ a) : a ∉ X.fs := fun hb => by
  obtain ⟨_, o, ho, _⟩ := I.ok.funs.mem hb
  exact absurd (Nat.lt_of_lt_of_le (Heap.lt_size ho) (Nat.le_trans I.sz h)) (Nat.lt_irrefl _)
theorem Inv.cne (I : Inv X pins σ H s) : ∀ x c, X.env.cells.lookup x = some c → c ≠ X.env.locals := fun x c e z => by
  obtain ⟨v, o, ho, hd⟩ := I.cell x c e
  obtain ⟨m, ⟨o', es, ep, ho', hd', _⟩, _⟩ := I.loc
  rw [z, ho'] at ho; cases ho; rw [hd'] at hd; cases hd
theorem Inv.funs (I : Inv X pins σ H s) : s.heap.FunFrames X.base X.outer := by
  have all : ∀ (l : List Env), (∀ b ∈ frs l, b ∈ X.fs) → X.s₀.heap.FunFrames X.base l → s.heap.FunFrames X.base l := by
    intro l
    induction l with
    | nil => intro _ _; trivial
    | cons env r ih =>
      intro hs hl
      obtain ⟨hk, ⟨L, o, hf, hn, ho, hd⟩, hr⟩ := hl
      have hL : L ∈ X.fs := hs L (by unfold frs; rw [List.filterMap_cons, hf]; exact List.mem_cons_self)
      obtain ⟨sl, e⟩ := I.base.slot L o ho (I.ok.frf L hL) hL fun z => I.ok.exfs L z hL
      exact ⟨hk, ⟨L, _, hf, hn, e, hd⟩, ih (fun b hb => hs b (by unfold frs; rw [List.filterMap_cons, hf]; exact List.mem_cons_of_mem _ hb)) hr⟩
  exact all X.outer (fun _ hb => hb) I.ok.funs

/-- the frames that run, for a call -/
theorem Inv.stack (I : Inv X pins σ H s) : s.heap.FunFrames X.base X.stack := by
  rcases I.ok.stk with e | ⟨e, hf⟩
  · rw [e]; exact I.funs
  · rw [e]
    obtain ⟨m, hn, _⟩ := I.loc
    refine .cons (by rw [I.ok.kind]; decide) hf hn ?_ I.funs
    exact Heap.get?_none_of_le (Nat.le_trans I.ok.bsz I.ok.above)
theorem Inv.stkSub (I : Inv X pins σ H s) : ∀ b ∈ frs X.stack, b ∈ X.env.locals :: X.fs := fun b hb => by
  rcases I.ok.stk with e | ⟨e, hf⟩
  · rw [e] at hb; exact List.mem_cons_of_mem _ hb
  · rw [e] at hb
    unfold frs at hb
    rw [List.filterMap_cons, hf] at hb
    exact hb
theorem Inv.stkFree (I : Inv X pins σ H s) : ∀ b ∈ frs X.stack, H b = none := fun b hb => by
  rcases List.mem_cons.mp (I.stkSub b hb) with e | hb
  · rw [e]; exact I.free
  · obtain ⟨_, o, ho, _⟩ := I.ok.funs.mem hb
    exact I.base.free b o ho (I.ok.frf b hb) fun z => I.ok.exfs b z hb

/-- THE STEP: the untracked objects but the frame and the records at ch are kept (the callers' frames up to slots), the frame's map is kept, the new abstract heap is held -/
theorem Inv.step {g' : Array GenState} {t' : Nat} {d' : Drawn} {ch : List Addr} (I : Inv X pins σ H s)
    (hch : ∀ b ∈ ch, (b ∈ X.ex ∨ X.s₀.heap.objs.size ≤ b) ∧ b ≠ X.env.locals ∧ (∀ x c, X.env.cells.lookup x = some c → c ≠ b) ∧ ∀ p ∈ X.pn ++ pins, p.1 ≠ b)
    (keep : ∀ b o, b ≠ X.env.locals → b ∉ X.fs → b ∉ ch → s.heap.get? b = some o → H b = none → h'.get? b = some o)
    (slot : ∀ b o, b ≠ X.env.locals → b ∈ X.fs → b ∉ ch → s.heap.get? b = some o → H b = none → ∃ sl, h'.get? b = some { o with slots := sl }) (free : ∀ b o, b ∉ ch → s.heap.get? b = some o → H b = none → H' b = none)
    (there : ∀ b o, b ∉ ch → s.heap.get? b = some o → ∃ o', h'.get? b = some o')
    (tups : ∀ b xs, H b = some (.tup xs) → H' b = some (.tup xs)) (frzs : ∀ b o u, H b = some (.frz o u) → H' b = some (.frz o u)) (tbls : ∀ b ps, H b = some (.tbl ps) → ∃ more, H' b = some (.tbl (ps ++ more)))
    (ns : ∀ m, s.heap.Ns X.env.locals m → h'.Ns X.env.locals m) (hok : HOk X.prog X.w H' h') (hg : AllBare g') :
    Inv X pins σ H' { s with heap := h', gens := g', drawn := d', toks := t' } := by
  have neL : ∀ b o, X.s₀.heap.get? b = some o → b ≠ X.env.locals := fun b o e => Nat.ne_of_lt (Nat.lt_of_lt_of_le (Heap.lt_size e) I.ok.above)
  have neC : ∀ b o, X.s₀.heap.get? b = some o → b ∉ X.ex → b ∉ ch := fun b o e hx hb => by
    rcases (hch b hb).1 with z | z
    · exact hx z
    · exact absurd (Nat.lt_of_lt_of_le (Heap.lt_size e) z) (Nat.lt_irrefl _)
  have cellK : ∀ x c, X.env.cells.lookup x = some c → ∀ v, s.heap.IsCell c v → h'.IsCell c v := fun x c e v ⟨o, ho, hd⟩ => by
    have nch : c ∉ ch := fun z => (hch c z).2.2.1 x c e rfl
    by_cases hc : c ∈ X.fs
    · obtain ⟨sl, q⟩ := slot c o (I.cne x c e) hc nch ho (I.freeC x c e)
      exact ⟨_, q, hd⟩
    · exact ⟨o, keep c o (I.cne x c e) hc nch ho (I.freeC x c e), hd⟩
  refine ⟨I.ok, I.os, hg, ⟨fun b o e n hb hx => ?_, fun b o e n hb hx => ?_, fun b o e n hx => ?_, fun b o e hx => ?_, fun b xs e => tups b xs (I.base.tups b xs e), fun b o xs e => frzs b o xs (I.base.frzs b o xs e), fun b ps e => ?_⟩, ?_, fun x c e => ?_, ?_, fun x c e => ?_, fun p hp => ?_, hok, I.len⟩
  · exact keep b o (neL b o e) hb (neC b o e hx) (I.base.keep b o e n hb hx) (I.base.free b o e n hx)
  · obtain ⟨sl, e1⟩ := I.base.slot b o e n hb hx
    obtain ⟨sl', e2⟩ := slot b _ (neL b o e) hb (neC b o e hx) e1 (I.base.free b o e n hx)
    exact ⟨sl', e2⟩
  · obtain ⟨o', e1⟩ := I.base.there b o e hx
    exact free b o' (neC b o e hx) e1 (I.base.free b o e n hx)
  · obtain ⟨o', e1⟩ := I.base.there b o e hx
    exact there b o' (neC b o e hx) e1
  · obtain ⟨m1, e1⟩ := I.base.tbls b ps e
    obtain ⟨m2, e2⟩ := tbls b _ e1
    exact ⟨m1 ++ m2, by rw [e2, Array.append_assoc]⟩
  · obtain ⟨m, hn, hl⟩ := I.loc
    refine ⟨m, ns m hn, fun i x v e1 e2 e3 => ?_⟩
    obtain ⟨u, r, l⟩ := hl i x v e1 e2 e3
    refine ⟨u, r, ?_⟩
    rcases l with l | ⟨k, c, e, z⟩
    · exact .inl l
    · exact .inr ⟨k, c, e, cellK x c e _ z⟩
  · obtain ⟨v, z⟩ := I.cell x c e
    exact ⟨v, cellK x c e v z⟩
  · obtain ⟨m, ⟨o, _, _, ho, _⟩, _⟩ := I.loc
    exact free _ o (fun z => (hch _ z).2.1 rfl) ho I.free
  · obtain ⟨v, o, ho, hd⟩ := I.cell x c e
    exact free c o (fun z => (hch c z).2.2.1 x c e rfl) ho (I.freeC x c e)
  · obtain ⟨e, n, ne, nf, d⟩ := I.pin p hp
    have nch : p.1 ∉ ch := fun z => (hch p.1 z).2.2.2 p hp rfl
    exact ⟨keep p.1 p.2 ne nf nch e n, free p.1 p.2 nch e n, ne, nf, d⟩
/-- .. where the frame's own object is kept too -/
theorem Inv.un {t' : Nat} (I : Inv X pins σ H s) (u : Un X.fs [] H H' s.heap h') (hok : HOk X.prog X.w H' h') : Inv X pins σ H' { s with heap := h', toks := t' } := by
  obtain ⟨m, ⟨o, es, ep, ho, r⟩, _⟩ := id I.loc
  obtain ⟨sl, hL⟩ := u.any ho I.free (by simp)
  exact I.step (g' := s.gens) (d' := s.drawn) (ch := []) (fun _ z => nomatch z) (fun b o _ hb _ e n => u.keep b o e n hb (by simp)) (fun b o _ hb _ e n => u.slot b o e n hb (by simp)) (fun b o _ e n => u.free b o e n (by simp)) (fun b o _ e => u.there b o e (by simp)) u.tups u.frzs u.tbls (fun m' hm => by
    obtain ⟨o', es', ep', ho', r'⟩ := hm
    rw [ho] at ho'; cases ho'
    exact ⟨_, es', ep', hL, r'⟩) hok I.bare
/-- behind a call (or a comprehension's block): the slots of this frame may have changed too, the records at ch may have turned -/
theorem Inv.call {g' : Array GenState} {t' : Nat} {d' : Drawn} {ch : List Addr} (I : Inv X pins σ H s) (u : Un (frs X.stack) ch H H' s.heap h') (hok : HOk X.prog X.w H' h') (hg : AllBare g')
    (hch : ∀ b ∈ ch, (b ∈ X.ex ∨ X.s₀.heap.objs.size ≤ b) ∧ b ≠ X.env.locals ∧ (∀ x c, X.env.cells.lookup x = some c → c ≠ b) ∧ ∀ p ∈ X.pn ++ pins, p.1 ≠ b) :
    Inv X pins σ H' { s with heap := h', gens := g', drawn := d', toks := t' } := by
  obtain ⟨m, ⟨o, es, ep, ho, r⟩, _⟩ := id I.loc
  obtain ⟨sl, hL⟩ := u.any ho I.free fun z => (hch _ z).2.1 rfl
  exact I.step (ch := ch) hch (fun b o hL hb hc e n => u.keep b o e n (fun z => (List.mem_cons.mp (I.stkSub b z)).elim hL hb) hc) (fun b o _ _ hc e n => u.any e n hc) (fun b o hc e n => u.free b o e n hc) (fun b o hc e => u.there b o e hc) u.tups u.frzs u.tbls (fun m' hm => by
    obtain ⟨o', es', ep', ho', r'⟩ := hm
    rw [ho] at ho'; cases ho'
    exact ⟨_, es', ep', hL, r'⟩) hok hg
/-- an untracked record of ours (an iterator) has turned -/
theorem Inv.turned {t' : Nat} {it : Addr} (I : Inv X pins σ H s) (k : ∀ b o, b ≠ it → s.heap.get? b = some o → h'.get? b = some o) (hn : H it = none) (hL : it ≠ X.env.locals)
    (h1 : it ∈ X.ex ∨ X.s₀.heap.objs.size ≤ it) (h2 : ∀ x c, X.env.cells.lookup x = some c → c ≠ it) (h3 : ∀ p ∈ X.pn ++ pins, p.1 ≠ it) : Inv X pins σ H { s with heap := h', toks := t' } := by
  have nit : ∀ b u, H b = some u → b ≠ it := fun b u e z => by rw [z, hn] at e; cases e
  refine I.step (g' := s.gens) (d' := s.drawn) (ch := [it]) (fun b hb => ?_) (fun b o _ _ hc e _ => k b o (fun z => hc (by simp [z])) e) (fun b o _ _ hc e _ => ⟨o.slots, k b o (fun z => hc (by simp [z])) e⟩) (fun _ _ _ _ n => n)
    (fun b o hc e => ⟨o, k b o (fun z => hc (by simp [z])) e⟩) (fun _ _ e => e) (fun _ _ _ e => e) (fun b ps e => ⟨#[], by rw [e]; simp⟩) (fun m hm => ?_) (fun b u e => ?_) I.bare
  · have e : b = it := by simpa using hb
    subst e
    exact ⟨h1, hL, h2, h3⟩
  · obtain ⟨o, es, ep, ho, r⟩ := hm
    exact ⟨o, es, ep, k _ o (Ne.symm hL) ho, r⟩
  · refine (I.hok b u e).stay (fun c v hc q => k c v ?_ q) (fun _ q => q) fun _ _ q => q
    rcases hc with z | z
    · rw [z]; exact nit b u e
    · exact nit c _ z
theorem Inv.tok (I : Inv X pins σ H s) (t : Nat) : Inv X pins σ H { s with toks := t } := I.un (h' := s.heap) (t' := t) Un.refl I.hok
/-- all objects kept -/
theorem Inv.kept {t' : Nat} (I : Inv X pins σ H s) (k : ∀ b u, s.heap.get? b = some u → h'.get? b = some u) : Inv X pins σ H { s with heap := h', toks := t' } := I.un (Un.kept k) (I.hok.kept k)
/-- a new object laid and tracked -/
theorem Inv.laid {a : Addr} {o : HO} {t' : Nat} (I : Inv X pins σ H s) (k : ∀ b u, s.heap.get? b = some u → h'.get? b = some u) (hp : s.heap.objs.size ≤ a) (new : ObjOk X.prog X.w (upd H a o) h' a o) :
    Inv X pins σ (upd H a o) { s with heap := h', toks := t' } := I.un (Un.laid k hp (I.hok.fresh hp)) (I.hok.laid k hp new)
/-- an object written -/
theorem Inv.write {x e : Addr} {o : HO} {t' : Nat} (I : Inv X pins σ H s) (mu : Mut (H x)) (he : e = x ∨ H e = some (.own x)) (k : ∀ b u, b ≠ e → s.heap.get? b = some u → h'.get? b = some u) (heo : ∃ u, h'.get? e = some u)
    (new : ObjOk X.prog X.w (upd H x o) h' x o) : Inv X pins σ (upd H x o) { s with heap := h', toks := t' } := I.un (Un.write mu he k heo) (I.hok.write mu he k heo new)
theorem Inv.pins_of {pins' : List (Addr × Obj)} (I : Inv X pins σ H s) (h : ∀ p ∈ pins', s.heap.get? p.1 = some p.2 ∧ H p.1 = none ∧ p.1 ≠ X.env.locals ∧ p.1 ∉ X.fs ∧ ∀ v, p.2.data ≠ .cell v) : Inv X pins' σ H s :=
  ⟨I.ok, I.os, I.bare, I.base, I.loc, I.cell, I.free, I.freeC, fun p hp => (List.mem_append.mp hp).elim (fun z => I.pin p (List.mem_append_left _ z)) (h p), I.hok, I.len⟩

theorem nodup_ix {N : List Str} (hN : N.Nodup) {i j : Nat} {x : Str} (a : N[i]? = some x) (b : N[j]? = some x) : i = j := by
  obtain ⟨h1, e1⟩ := List.getElem?_eq_some_iff.mp a
  obtain ⟨h2, e2⟩ := List.getElem?_eq_some_iff.mp b
  exact (List.getElem_inj hN).mp (e1.trans e2.symm)

/-- a name is stored; what changed -/
theorem store_ok2 {M : Model} {A : Around} {E : Value → Shared → Prop} {i : Nat} {x : Str} {v : V} {u : Value} {Q : Unit → Shared → Prop} (I : Inv X pins σ H s) (hN : X.N.Nodup) (hi : X.N[i]? = some x) (hx : Loc X.env.scope x) (r : RelV v u)
    (h : ∀ s', Inv X pins (σ.set i (some v)) H s' → (∃ a, Heap.SameBut a s.heap s'.heap ∧ (a = X.env.locals ∨ X.env.cells.lookup x = some a)) → Q () s') (hf : X.fn x = true ∨ X.env.scope.names.lookup x = some .local := by first | exact .inl rfl | exact .inr rfl | assumption) : wpAny M A (storeName X.env x u) Q E s := by
  obtain ⟨m, hn, hl⟩ := id I.loc
  have hcls : (X.env.scope.kind == .class || (X.env.scope.kind == .module && X.env.locals != X.env.globals)) = false := by rw [I.ok.kind]; rfl
  have hiσ : i < σ.length := by rw [I.len]; exact (List.getElem?_eq_some_iff.mp hi).1
  have cne := I.cne
  have tracked : ∀ {a : Addr} {h' : Heap}, (∃ o, s.heap.get? a = some o ∧ H a = none) → Heap.SameBut a s.heap h' → HOk X.prog X.w H h' := fun {a h'} ha hs b ob e => by
    obtain ⟨_, _, hfree⟩ := ha
    refine (I.hok b ob e).stay (fun c w' hc q => (hs.2 c ?_).trans q) (fun _ q => q) fun _ _ q => q
    rintro rfl
    rcases hc with rfl | hc
    · rw [hfree] at e; cases e
    · rw [hfree] at hc; cases hc
  rcases hx with hk | hk
  · refine wpAny_storeName_local hk hn (fun h' hn' hs => ?_) hcls
    obtain ⟨oL, _, _, hoL, _⟩ := id hn
    refine h _ ⟨I.ok, I.os, I.bare, ⟨fun b o e n hb hx => ?_, fun b o e n hb hx => ?_, I.base.free, fun b o e hx => ?_, I.base.tups, I.base.frzs, I.base.tbls⟩, ⟨_, hn', fun j y v' e1 e2 e3 => ?_⟩, fun y c e => ?_, I.free, I.freeC, fun p hp => ?_, tracked ⟨oL, hoL, I.free⟩ hs, by simpa using I.len⟩ ⟨_, hs, .inl rfl⟩
    · exact (hs.2 b (Nat.ne_of_lt (Nat.lt_of_lt_of_le (Heap.lt_size e) I.ok.above))).trans (I.base.keep b o e n hb hx)
    · obtain ⟨sl, e1⟩ := I.base.slot b o e n hb hx
      exact ⟨sl, (hs.2 b (Nat.ne_of_lt (Nat.lt_of_lt_of_le (Heap.lt_size e) I.ok.above))).trans e1⟩
    · obtain ⟨o', e1⟩ := I.base.there b o e hx
      exact ⟨o', (hs.2 b (Nat.ne_of_lt (Nat.lt_of_lt_of_le (Heap.lt_size e) I.ok.above))).trans e1⟩
    · by_cases hj : j = i
      · subst hj
        rw [hi] at e1; cases e1
        rw [List.getElem?_set_self hiσ] at e2
        cases e2
        exact ⟨u, r, .inl ⟨hk, by simp⟩⟩
      · rw [List.getElem?_set_ne (Ne.symm hj)] at e2
        obtain ⟨u', r', q⟩ := hl j y v' e1 e2 e3
        refine ⟨u', r', ?_⟩
        rcases q with ⟨k, e⟩ | ⟨k, c, e, z⟩
        · refine .inl ⟨k, ?_⟩
          have : y ≠ x := fun e => hj (nodup_ix hN e1 (e ▸ hi))
          simp [this, e]
        · exact .inr ⟨k, c, e, z.sameBut hs (cne y c e)⟩
    · obtain ⟨w', z⟩ := I.cell y c e
      exact ⟨w', z.sameBut hs (cne y c e)⟩
    · obtain ⟨e, n, ne, nf, d⟩ := I.pin p hp
      exact ⟨(hs.2 p.1 ne).trans e, n, ne, nf, d⟩
  · have hfn : X.fn x = true := by
      rcases hf with z | z
      · exact z
      · rw [z] at hk; cases hk
    obtain ⟨c, hc⟩ := I.ok.has x (.inl hk)
    obtain ⟨w', z⟩ := I.cell x c hc
    refine wpAny_storeName_cell I.ok.kind hk hc z (fun h' hc' hs => ?_)
    obtain ⟨oc, hoc, hocd⟩ := id z
    refine h { s with heap := h' } ⟨I.ok, I.os, I.bare, ⟨fun b o e n hb hx => ?_, fun b o e n hb hx => ?_, I.base.free, fun b o e hx => ?_, I.base.tups, I.base.frzs, I.base.tbls⟩, ⟨m, hn.sameBut hs (Ne.symm (cne x c hc)), fun j y v' e1 e2 e3 => ?_⟩, fun y c' e => ?_, I.free, I.freeC, fun p hp => ?_, tracked ⟨oc, hoc, I.freeC x c hc⟩ hs, by simpa using I.len⟩ ⟨c, hs, .inr hc⟩
    · exact (hs.2 b (Nat.ne_of_lt (Nat.lt_of_lt_of_le (Heap.lt_size e) (I.ok.cab x c hfn hc)))).trans (I.base.keep b o e n hb hx)
    · obtain ⟨sl, e1⟩ := I.base.slot b o e n hb hx
      exact ⟨sl, (hs.2 b (Nat.ne_of_lt (Nat.lt_of_lt_of_le (Heap.lt_size e) (I.ok.cab x c hfn hc)))).trans e1⟩
    · obtain ⟨o', e1⟩ := I.base.there b o e hx
      exact ⟨o', (hs.2 b (Nat.ne_of_lt (Nat.lt_of_lt_of_le (Heap.lt_size e) (I.ok.cab x c hfn hc)))).trans e1⟩
    · by_cases hj : j = i
      · subst hj
        rw [hi] at e1; cases e1
        rw [List.getElem?_set_self hiσ] at e2
        cases e2
        exact ⟨u, r, .inr ⟨.inl hk, c, hc, hc'⟩⟩
      · rw [List.getElem?_set_ne (Ne.symm hj)] at e2
        obtain ⟨u', r', q⟩ := hl j y v' e1 e2 e3
        refine ⟨u', r', ?_⟩
        rcases q with q | ⟨k, c', e, z'⟩
        · exact .inl q
        · refine .inr ⟨k, c', e, z'.sameBut hs ?_⟩
          rintro rfl
          exact hj (nodup_ix hN e1 (I.ok.inj _ _ _ e hc ▸ hi))
    · by_cases hcc : c' = c
      · subst hcc; exact ⟨_, hc'⟩
      · obtain ⟨w2, z2⟩ := I.cell y c' e
        exact ⟨w2, z2.sameBut hs hcc⟩
    · obtain ⟨e, n, ne, nf, d⟩ := I.pin p hp
      refine ⟨(hs.2 p.1 ?_).trans e, n, ne, nf, d⟩
      intro q
      rw [q, hoc] at e
      have q' : oc = p.2 := Option.some.inj e
      exact d w' (by rw [← q']; exact hocd)
theorem store_ok {M : Model} {A : Around} {E : Value → Shared → Prop} {i : Nat} {x : Str} {v : V} {u : Value} {Q : Unit → Shared → Prop} (I : Inv X pins σ H s) (hN : X.N.Nodup) (hi : X.N[i]? = some x) (hx : Loc X.env.scope x) (r : RelV v u)
    (h : ∀ s', Inv X pins (σ.set i (some v)) H s' → Q () s') (hf : X.fn x = true ∨ X.env.scope.names.lookup x = some .local := by first | exact .inl rfl | exact .inr rfl | assumption) : wpAny M A (storeName X.env x u) Q E s :=
  store_ok2 I hN hi hx r (fun s' I' _ => h s' I') hf
/-- behind a call or a block, the state as it is -/
theorem Inv.call' {s' : Shared} {ch : List Addr} (I : Inv X pins σ H s) (ho : s'.os = s.os) (u : Un (frs X.stack) ch H H' s.heap s'.heap) (hok : HOk X.prog X.w H' s'.heap) (hg : AllBare s'.gens)
    (hch : ∀ b ∈ ch, (b ∈ X.ex ∨ X.s₀.heap.objs.size ≤ b) ∧ b ≠ X.env.locals ∧ (∀ x c, X.env.cells.lookup x = some c → c ≠ b) ∧ ∀ p ∈ X.pn ++ pins, p.1 ≠ b) : Inv X pins σ H' s' := by
  obtain ⟨h', g', d', t', o'⟩ := s'
  have e : o' = s.os := ho
  subst e
  exact I.call (g' := g') (t' := t') (d' := d') u hok hg hch
end

/-- an exception: its class, its own dict's address (where it has one), the abstract heap behind it -/
abbrev XK := Value → Option Addr → Hp → Prop
abbrev St := List (Option V)
abbrev VK := V → Hp → Prop
/-- an expression's reading; a test's; an argument list's -/
abbrev TE := St → Hp → VK → Prop
abbrev TT := St → Hp → (Bool → Hp → Prop) → Prop
abbrev TA := St → Hp → (List V → Hp → Prop) → Prop
/-- what is wanted behind a statement -/
structure Ends where
  nx : St → Hp → Prop
  rt : VK
  bk : St → Hp → Prop := fun _ _ => False
  ct : St → Hp → Prop := fun _ _ => False
abbrev TS := Ends → St → Hp → Prop

def EP (X : Cx) (pins : List (Addr × Obj)) (σ : St) (Q : VK) (u : Value) (s' : Shared) : Prop := ∃ v H', Inv X pins σ H' s' ∧ RelV v u ∧ Q v H'
def TP (X : Cx) (pins : List (Addr × Obj)) (σ : St) (Q : Bool → Hp → Prop) (b : Bool) (s' : Shared) : Prop := ∃ H', Inv X pins σ H' s' ∧ Q b H'
def AP (X : Cx) (pins : List (Addr × Obj)) (σ : St) (Q : List V → Hp → Prop) (us : List Value) (s' : Shared) : Prop := ∃ vs H', Inv X pins σ H' s' ∧ Vals vs us ∧ Q vs H'
def SP (X : Cx) (pins : List (Addr × Obj)) (D : Ends) (f : Flow) (s' : Shared) : Prop :=
  match f with
  | .next => ∃ σ' H', Inv X pins σ' H' s' ∧ D.nx σ' H'
  | .brk => ∃ σ' H', Inv X pins σ' H' s' ∧ D.bk σ' H'
  | .cont => ∃ σ' H', Inv X pins σ' H' s' ∧ D.ct σ' H'
  | .ret u => ∃ v σ' H', Inv X pins σ' H' s' ∧ RelV v u ∧ D.rt v H'

def PE (X : Cx) (e : Expr) (t : TE) : Prop :=
  ∀ (pins : List (Addr × Obj)) (s : Shared) (σ : St) (H : Hp) (Q : VK), Inv X pins σ H s → t σ H Q → wpAny (model X.prog X.w) X.A (eval e X.env) (EP X pins σ Q) X.xe s
def PT (X : Cx) (e : Expr) (t : TT) : Prop :=
  ∀ (pins : List (Addr × Obj)) (s : Shared) (σ : St) (H : Hp) (Q : Bool → Hp → Prop), Inv X pins σ H s → t σ H Q → wpAny (model X.prog X.w) X.A (isTrue e X.env (eval e X.env)) (TP X pins σ Q) X.xe s
/-- a test whatever its 'whole' is (and, or) -/
def PW (X : Cx) (e : Expr) (t : TT) : Prop :=
  ∀ (whole : Sem Value) (pins : List (Addr × Obj)) (s : Shared) (σ : St) (H : Hp) (Q : Bool → Hp → Prop), Inv X pins σ H s → t σ H Q → wpAny (model X.prog X.w) X.A (isTrue e X.env whole) (TP X pins σ Q) X.xe s
theorem PW.pt {X : Cx} {e : Expr} {t : TT} (h : PW X e t) : PT X e t := h _
/-- an argument list (no star), from the left -/
def PA (X : Cx) (es : List Expr) (t : TA) : Prop :=
  ∀ (pos : Pos) (pins : List (Addr × Obj)) (s : Shared) (σ : St) (H : Hp) (Q : List V → Hp → Prop), Inv X pins σ H s → t σ H Q → wpAny (model X.prog X.w) X.A (spliced (backTo pos (starEach es X.env))) (AP X pins σ Q) X.xe s
def PS (X : Cx) (st : Stmt) (t : TS) : Prop :=
  ∀ (pins : List (Addr × Obj)) (s : Shared) (σ : St) (H : Hp) (D : Ends), Inv X pins σ H s → t D σ H → wpAny (model X.prog X.w) X.A (exec st X.env) (SP X pins D) X.xe s
def PSs (X : Cx) (st : List Stmt) (t : TS) : Prop :=
  ∀ (pins : List (Addr × Obj)) (s : Shared) (σ : St) (H : Hp) (D : Ends), Inv X pins σ H s → t D σ H → wpAny (model X.prog X.w) X.A (execs st X.env) (SP X pins D) X.xe s
/-- weaken the end -/
theorem thn {α : Type} {t : Sem α} {Q Q' : α → Shared → Prop} {M : Model} {A : Around} {E : Value → Shared → Prop} {s : Shared} (h : wpAny M A t Q E s) (hQ : ∀ a s, Q a s → Q' a s) : wpAny M A t Q' E s := wpAny_mono h hQ fun _ _ x => x
end L2

namespace L2
open PySem PySem.Spec PyProof.Rows
section
variable {X : Cx}

def tVar (i : Nat) : TE := fun σ H Q => ∃ v, σ[i]? = some (some v) ∧ Q v H
def tC (v : V) : TE := fun _ H Q => Q v H
theorem pe_var {i : Nat} {x : Str} {pos : Pos} (hN : X.N[i]? = some x) (hv : Vis X.env.scope x) (hd : (x == ("__debug__" : Str)) = false := by decide) (hcd : (x == ("__classdict__" : Str)) = false := by decide) : PE X (.Name x pos) (tVar i) := by
  intro pins s σ H Q I h
  obtain ⟨v, e, h⟩ := h
  obtain ⟨m, hn, hl⟩ := I.loc
  obtain ⟨u, r, l⟩ := hl i x v hN e hv
  have fin : EP X pins σ Q u s := ⟨v, H, I, r, h⟩
  rcases l with ⟨hk, hm⟩ | ⟨hk, c, hc, hcell⟩
  · exact wpAny_Name (wpAny_loadName_local I.ok.kind hk hn hm fin) hd
  · rcases hk with hk | hk
    · exact wpAny_Name (wpAny_loadName_cell I.ok.kind hk hc hcell fin) hd
    · exact wpAny_Name (wpAny_loadName_free I.ok.kind hk hc hcell fin hcd) hd
theorem pe_int {i j pos} : PE X (.Constant (.int i) j pos) (tC (.int i)) := fun _ _ _ H _ I h => wpAny_Constant_int ⟨.int i, H, I.tok _, ⟨_, rfl⟩, h⟩
theorem pe_bl {b j pos} : PE X (.Constant (.bool b) j pos) (tC (.bl b)) := fun _ _ _ H _ I h => Constant_bool ⟨.bl b, H, I, rfl, h⟩
theorem pe_non {j pos} : PE X (.Constant .none j pos) (tC .non) := fun _ _ _ H _ I h => Constant_none ⟨.non, H, I, rfl, h⟩
theorem pe_str {x j pos} : PE X (.Constant (.str x) j pos) (tC (.str x)) := fun _ _ _ H _ I h => Calls.Constant_str ⟨.str x, H, I.tok _, ⟨_, rfl⟩, h⟩

/-- a global name of the def -/
def Gl (X : Cx) (x : Str) : Prop := X.env.kindOf x = some .globalImplicit
theorem ld_glob {E : Value → Shared → Prop} {pins : List (Addr × Obj)} {s : Shared} {σ : St} {H : Hp} {x : Str} {u : Value} {pos : Pos} {Q : Value → Shared → Prop} (I : Inv X pins σ H s) (hg : Gl X x) (hm : X.mg x = some u) (h : Q u s)
    (hd : (x == ("__debug__" : Str)) = false := by decide) : wpAny (model X.prog X.w) X.A (eval (.Name x pos) X.env) Q E s :=
  Calls.Name_function_global I.ok.kind hg (Calls.loadGlobal_global (by rw [I.ok.glob]; exact I.mod.glob.keeps I.bk) hm h) hd
theorem ld_blt {E : Value → Shared → Prop} {pins : List (Addr × Obj)} {s : Shared} {σ : St} {H : Hp} {x : Str} {u : Value} {pos : Pos} {Q : Value → Shared → Prop} (I : Inv X pins σ H s) (hg : Gl X x) (hm : X.mg x = none) (hv : bootBuiltins x = some u) (h : Q u s)
    (hn : x ≠ "__name__" := by decide) (hd : (x == ("__debug__" : Str)) = false := by decide) : wpAny (model X.prog X.w) X.A (eval (.Name x pos) X.env) Q E s := by
  obtain ⟨mb, h1, h2⟩ := I.mod.blt
  exact Calls.Name_function_global I.ok.kind hg (Calls.loadGlobal_builtin (by rw [I.ok.glob]; exact I.mod.glob.keeps I.bk) hm (by rw [I.ok.blt]; exact h1.keeps I.bk) ((h2 x hn).trans hv) h) hd
/-- a module's constant, a class, a function, as a value -/
theorem pe_glob {x : Str} {v : V} {u : Value} {pos : Pos} (hg : Gl X x) (hm : X.mg x = some u) (r : RelV v u) (hd : (x == ("__debug__" : Str)) = false := by decide) : PE X (.Name x pos) (tC v) :=
  fun _ _ _ H _ I h => ld_glob I hg hm ⟨v, H, I, r, h⟩ hd
theorem pe_bltn {x : Str} {v : V} {u : Value} {pos : Pos} (hg : Gl X x) (hm : X.mg x = none) (hv : bootBuiltins x = some u) (r : RelV v u) (hn : x ≠ "__name__" := by decide) (hd : (x == ("__debug__" : Str)) = false := by decide) : PE X (.Name x pos) (tC v) :=
  fun _ _ _ H _ I h => ld_blt I hg hm hv ⟨v, H, I, r, h⟩ hn hd

variable {a b : Expr} {ta tb : TE} {pos : Pos}
/-- a comparison as a value, as a test -/
def tB (t : TE) : TT := fun σ H Q => t σ H fun x H1 => ∃ c, x = .bl c ∧ Q c H1
/-- an expression whose value is a bool, as a test -/
theorem pt_val {e : Expr} {t : TE} (h : PE X e t) (he : ∀ whole, isTrue e X.env whole = (do let v ← whole; standAt e.pos; holding [v] (truthy v)) := by intro _; rfl) : PT X e (tB t) := by
  intro pins s σ H Q I hw
  refine isTrue_plain (thn (h pins s σ H _ I hw) fun v s1 ⟨x, H1, I1, r1, q1⟩ => ?_) (he _)
  obtain ⟨d, rfl, q⟩ := q1
  cases r1
  exact wpAny_truthy_bool ⟨H1, I1, q⟩

variable {tA tB' : TT} {rest : List Expr}
def tAnd (t u : TT) : TT := fun σ H Q => t σ H fun c H1 => if c = true then u σ H1 Q else Q false H1
def tOr (t u : TT) : TT := fun σ H Q => t σ H fun c H1 => if c = true then Q true H1 else u σ H1 Q
def tNot (t : TT) : TT := fun σ H Q => t σ H fun c H1 => Q (!c) H1
theorem pw_and1 (ha : PT X a tA) : PW X (.BoolOp .And [a] pos) tA := by
  intro wh pins s σ H Q I h
  refine isTrue_and (thn (ha pins s σ H Q I h) fun c s1 e => ?_)
  cases c with
  | true => exact isTrue_and_nil e
  | false => exact e
theorem pw_or1 (ha : PT X a tA) : PW X (.BoolOp .Or [a] pos) tA := by
  intro wh pins s σ H Q I h
  refine isTrue_or (thn (ha pins s σ H Q I h) fun c s1 e => ?_)
  cases c with
  | false => exact isTrue_or_nil e
  | true => exact e
theorem pw_and (ha : PT X a tA) (hb : PW X (.BoolOp .And (b :: rest) pos) tB') : PW X (.BoolOp .And (a :: b :: rest) pos) (tAnd tA tB') := by
  intro wh pins s σ H Q I h
  refine isTrue_and (thn (ha pins s σ H _ I h) fun c s1 ⟨H1, I1, q1⟩ => ?_)
  cases c with
  | true => exact hb wh pins s1 σ H1 Q I1 q1
  | false => exact ⟨H1, I1, q1⟩
theorem pw_or (ha : PT X a tA) (hb : PW X (.BoolOp .Or (b :: rest) pos) tB') : PW X (.BoolOp .Or (a :: b :: rest) pos) (tOr tA tB') := by
  intro wh pins s σ H Q I h
  refine isTrue_or (thn (ha pins s σ H _ I h) fun c s1 ⟨H1, I1, q1⟩ => ?_)
  cases c with
  | true => exact ⟨H1, I1, q1⟩
  | false => exact hb wh pins s1 σ H1 Q I1 q1
theorem pt_not (ha : PT X a tA) : PT X (.UnaryOp .Not a pos) (tNot tA) := by
  intro pins s σ H Q I h
  exact isTrue_not (ha pins s σ H (fun c H1 => Q (!c) H1) I h)
/-- .. as values (bools) -/
def tAndV (ta tb : TE) : TE := fun σ H Q => ta σ H fun x H1 => ∃ c, x = .bl c ∧ if c = true then tb σ H1 Q else Q (.bl false) H1
def tOrV (ta tb : TE) : TE := fun σ H Q => ta σ H fun x H1 => ∃ c, x = .bl c ∧ if c = true then Q (.bl true) H1 else tb σ H1 Q
def tNotV (ta : TE) : TE := fun σ H Q => ta σ H fun x H1 => ∃ c, x = .bl c ∧ Q (.bl (!c)) H1
theorem pe_one {op} {t : TE} (h : PE X a t) : PE X (.BoolOp op [a] pos) t := fun pins s σ H Q I hw => BoolOp_one (h pins s σ H Q I hw)
theorem pe_and (ha : PE X a ta) (hb : PE X (.BoolOp .And (b :: rest) pos) tb) : PE X (.BoolOp .And (a :: b :: rest) pos) (tAndV ta tb) := by
  intro pins s σ H Q I h
  refine BoolOp_and (thn (ha pins s σ H _ I h) fun v s1 ⟨x, H1, I1, r1, q1⟩ => ?_)
  obtain ⟨c, rfl, q1⟩ := q1
  cases r1
  refine wpAny_truthy_bool ?_
  cases c with
  | true => exact hb pins s1 σ H1 Q I1 q1
  | false => exact ⟨.bl false, H1, I1, rfl, q1⟩
theorem pe_or (ha : PE X a ta) (hb : PE X (.BoolOp .Or (b :: rest) pos) tb) : PE X (.BoolOp .Or (a :: b :: rest) pos) (tOrV ta tb) := by
  intro pins s σ H Q I h
  refine BoolOp_or (thn (ha pins s σ H _ I h) fun v s1 ⟨x, H1, I1, r1, q1⟩ => ?_)
  obtain ⟨c, rfl, q1⟩ := q1
  cases r1
  refine wpAny_truthy_bool ?_
  cases c with
  | false => exact hb pins s1 σ H1 Q I1 q1
  | true => exact ⟨.bl true, H1, I1, rfl, q1⟩
theorem pe_not (ha : PE X a ta) : PE X (.UnaryOp .Not a pos) (tNotV ta) := by
  intro pins s σ H Q I h
  refine UnaryOp_ (thn (ha pins s σ H _ I h) fun v s1 ⟨x, H1, I1, r1, q1⟩ => ?_)
  obtain ⟨c, rfl, q1⟩ := q1
  cases r1
  exact not_of (wpAny_truthy_bool ⟨.bl (!c), H1, I1, rfl, q1⟩)
end
end L2

namespace L2
open PySem PySem.Spec PyProof.Rows

def SqL (K : PySem.W.Frag) (H : Hp) (a : Addr) (xs : List V) : Prop :=
  Rd H a (.lst xs) ∨
    ∃ (o : Obj) (its : Array Value) (n : Nat), K.lookup a = some o ∧ o.cls = .type "list" ∧ o.dict = none ∧ o.data = .seq its n ∧ its.size ≤ sizeLine ∧ Vals xs its.toList
def SqT (K : PySem.W.Frag) (H : Hp) (a : Addr) (xs : List V) : Prop :=
  Rd H a (.tup xs) ∨
    ∃ (o : Obj) (its : Array Value) (n : Nat), K.lookup a = some o ∧ o.cls = .type "tuple" ∧ o.data = .seq its n ∧ its.size ≤ sizeLine ∧ Vals xs its.toList
def absV : Value → Option V
  | .none => some .non
  | .bool b => some (.bl b)
  | .int i _ => some (.int i)
  | .str x _ => some (.str x)
  | .bytes b _ => some (.byt b)
  | .float b _ => some (.flt b)
  | .ref a => some (.ref a)
  | .type n => some (.ty n)
  | _ => none
theorem RelV.abs {x : V} {u : Value} (r : RelV x u) : absV u = some x := by
  cases x with
  | non => cases r; rfl
  | bl _ => cases r; rfl
  | int _ => obtain ⟨t, rfl⟩ := r; rfl
  | str _ => obtain ⟨t, rfl⟩ := r; rfl
  | byt _ => obtain ⟨t, rfl⟩ := r; rfl
  | flt _ => obtain ⟨t, rfl⟩ := r; rfl
  | ref _ => cases r; rfl
  | ty _ => cases r; rfl
theorem RelV.inj {x y : V} {u : Value} (r : RelV x u) (q : RelV y u) : x = y := Option.some.inj (r.abs.symm.trans q.abs)
theorem Vals.inj : ∀ {xs ys : List V} {us : List Value}, Vals xs us → Vals ys us → xs = ys
  | _, _, _, .nil, .nil => rfl
  | _, _, _, .cons r t, .cons r' t' => by rw [r.inj r', Vals.inj t t']
section
variable {X : Cx} {pins : List (Addr × Obj)} {σ : St} {H : Hp} {s : Shared} {a : Addr} {xs ys : List V}
theorem SqL.of {K : PySem.W.Frag} (h : H a = some (.lst xs)) : SqL K H a xs := .inl (.inl h)
theorem SqT.of {K : PySem.W.Frag} (h : H a = some (.tup xs)) : SqT K H a xs := .inl (.inl h)
theorem Inv.list (I : Inv X pins σ H s) (h : SqL X.K H a xs) : ∃ its : List Value, Vals xs its ∧ PlainL s.heap a its.toArray ∧ xs.length ≤ sizeLine := by
  rcases h with h | ⟨o, its, n, hk, hc, hd, hs, hz, r⟩
  · obtain ⟨z, its, n, r, e⟩ := h.ok I.hok
    exact ⟨its, r, ⟨_, n, e, rfl, rfl, rfl⟩, z⟩
  · refine ⟨its.toList, r, ⟨o, n, I.kIn a o hk, hc, hd, by simpa using hs⟩, ?_⟩
    have e := r.length
    simp only [Array.length_toList] at e
    omega
theorem Inv.tuple (I : Inv X pins σ H s) (h : SqT X.K H a xs) : ∃ its : List Value, Vals xs its ∧ IsTup s.heap a its.toArray ∧ xs.length ≤ sizeLine := by
  rcases h with h | ⟨o, its, n, hk, hc, hs, hz, r⟩
  · obtain ⟨z, its, r, p⟩ := h.ok I.hok
    exact ⟨its, r, p, z⟩
  · refine ⟨its.toList, r, ⟨o, I.kIn a o hk, hc, n, by simpa using hs⟩, ?_⟩
    have e := r.length
    simp only [Array.length_toList] at e
    omega
theorem Inv.list_inj (I : Inv X pins σ H s) (h : SqL X.K H a xs) (h' : SqL X.K H a ys) : xs = ys := by
  obtain ⟨its, r, ⟨o, n, e, _, _, d⟩, _⟩ := I.list h
  obtain ⟨its', r', ⟨o', n', e', _, _, d'⟩, _⟩ := I.list h'
  rw [e] at e'; cases e'
  rw [d] at d'
  injection d' with d1 _
  have : its = its' := by simpa using congrArg Array.toList d1
  subst this
  exact r.inj r'
end

abbrev Cx.wish (X : Cx) (E : Value → Shared → Prop) : Cx := { X with xe := E }
/-- no exception leaves -/
abbrev Cx.nox (X : Cx) : Cx := X.wish fun _ _ => False
theorem Cx.Ok.wish {X : Cx} (ok : X.Ok) (E : Value → Shared → Prop) : (X.wish E).Ok :=
  ⟨ok.mod, ok.kind, ok.glob, ok.blt, ok.above, ok.inj, ok.has, ok.cab, ok.hd, ok.frames, ok.stk, ok.exf, ok.bs, ok.bsz, ok.noex, ok.exfs, ok.funs, ok.frf⟩
theorem Cx.Ok.unwish {X : Cx} {E : Value → Shared → Prop} (ok : (X.wish E).Ok) : X.Ok :=
  ⟨ok.mod, ok.kind, ok.glob, ok.blt, ok.above, ok.inj, ok.has, ok.cab, ok.hd, ok.frames, ok.stk, ok.exf, ok.bs, ok.bsz, ok.noex, ok.exfs, ok.funs, ok.frf⟩
section
variable {X : Cx} {pins : List (Addr × Obj)} {σ : St} {H : Hp} {s : Shared} {E : Value → Shared → Prop}
theorem Inv.wish (I : Inv X pins σ H s) (E : Value → Shared → Prop) : Inv (X.wish E) pins σ H s := ⟨I.ok.wish E, I.os, I.bare, I.base, I.loc, I.cell, I.free, I.freeC, I.pin, I.hok, I.len⟩
theorem Inv.unwish (I : Inv (X.wish E) pins σ H s) : Inv X pins σ H s := ⟨I.ok.unwish, I.os, I.bare, I.base, I.loc, I.cell, I.free, I.freeC, I.pin, I.hok, I.len⟩
theorem SP.unwish {D : Ends} {f : Flow} {s' : Shared} (h : SP (X.wish E) pins D f s') : SP X pins D f s' := by
  cases f with
  | next => obtain ⟨σ', H', I, q⟩ := h; exact ⟨σ', H', I.unwish, q⟩
  | brk => obtain ⟨σ', H', I, q⟩ := h; exact ⟨σ', H', I.unwish, q⟩
  | cont => obtain ⟨σ', H', I, q⟩ := h; exact ⟨σ', H', I.unwish, q⟩
  | ret u => obtain ⟨v, σ', H', I, r, q⟩ := h; exact ⟨v, σ', H', I.unwish, r, q⟩
theorem PSs.nox {st : List Stmt} {t : TS} (h : PSs X.nox st t) : PSs X st t := fun pins s σ H D I hw =>
  wpAny_mono (h pins s σ H D (I.wish _) hw) (fun _ _ q => q.unwish) fun _ _ z => False.elim z
end

section
variable {X : Cx} {st : Stmt} {rest : List Stmt} {t u : TS} {e : Expr} {te : TE} {pos : Pos}
def tNext : TS := fun D σ H => D.nx σ H
def tSeq (t u : TS) : TS := fun D σ H => t { D with nx := u D } σ H
theorem pss_nil : PSs X [] tNext := fun _ _ σ H _ I h => wpAny_execs_nil ⟨σ, H, I, h⟩
theorem pss_cons (h1 : PS X st t) (h2 : PSs X rest u) : PSs X (st :: rest) (tSeq t u) := by
  intro pins s σ H D I h
  refine wpAny_execs_cons (thn (h1 pins s σ H { D with nx := u D } I h) fun f s1 q => ?_)
  cases f with
  | next =>
    obtain ⟨σ', H', I', q⟩ := q
    exact h2 pins s1 σ' H' D I' q
  | ret v => exact q
  | brk => exact q
  | cont => exact q
theorem pss_one (h1 : PS X st t) : PSs X [st] t := by
  intro pins s σ H D I h
  refine wpAny_execs_cons (thn (h1 pins s σ H D I h) fun f s1 q => ?_)
  cases f with
  | next => exact wpAny_execs_nil q
  | ret v => exact q
  | brk => exact q
  | cont => exact q
/-- in a def's body nothing is shown -/
theorem Inv.quiet {pins : List (Addr × Obj)} {σ : St} {H : Hp} {s : Shared} (I : Inv X pins σ H s) : interactive X.env = false := by simp [interactive, I.ok.kind]
/-- an expression whose value is dropped -/
def tDrop (te : TE) : TS := fun D σ H => te σ H fun _ H1 => D.nx σ H1
theorem ps_expr (he : PE X e te) (hs : swapsWith e none pos.line X.env = pure false := by rfl) : PS X (.Expr e pos) (tDrop te) := by
  intro pins s σ H D I h
  exact wpAny_Expr_any (thn (he pins s σ H _ I h) fun v s1 ⟨x, H1, I1, r1, q1⟩ => ⟨σ, H1, I1, q1⟩) I.quiet hs
def tRet (te : TE) : TS := fun D σ H => te σ H D.rt
theorem ps_ret (he : PE X e te) : PS X (.Return (some e) pos) (tRet te) := by
  intro pins s σ H D I h
  exact wpAny_Return_some (thn (he pins s σ H _ I h) fun v s1 ⟨x, H1, I1, r1, q1⟩ => ⟨x, σ, H1, I1, r1, q1⟩)
def tIfS (c : TT) (t u : TS) : TS := fun D σ H => c σ H fun b H1 => if b = true then t D σ H1 else u D σ H1
theorem ps_if {c : Expr} {a b : List Stmt} {tc : TT} (hc : PT X c tc) (ha : PSs X a t) (hb : PSs X b u) : PS X (.If c a b pos) (tIfS tc t u) := by
  intro pins s σ H D I h
  refine wpAny_If (thn (hc pins s σ H _ I h) fun d s1 ⟨H1, I1, q1⟩ => ?_)
  cases d with
  | true => exact ha pins s1 σ H1 D I1 q1
  | false => exact hb pins s1 σ H1 D I1 q1
end

abbrev TG := V → St → Hp → (St → Hp → Prop) → Prop
abbrev TGs := List V → St → Hp → (St → Hp → Prop) → Prop
def PG (X : Cx) (target : Expr) (t : TG) : Prop :=
  ∀ (pins : List (Addr × Obj)) (s : Shared) (σ : St) (H : Hp) (v : V) (u : Value) (Q : St → Hp → Prop), Inv X pins σ H s → RelV v u → t v σ H Q →
    wpAny (model X.prog X.w) X.A (assign target X.env u) (fun _ s' => ∃ σ' H', Inv X pins σ' H' s' ∧ Q σ' H') X.xe s
/-- several targets, one after another -/
def PGs (X : Cx) (ts : List Expr) (t : TGs) : Prop :=
  ∀ (pins : List (Addr × Obj)) (s : Shared) (σ : St) (H : Hp) (vs : List V) (us : List Value) (Q : St → Hp → Prop), Inv X pins σ H s → Vals vs us → t vs σ H Q →
    wpAny (model X.prog X.w) X.A (assignInOrder ((assignEach ts X.env).map (·.2)) us) (fun _ s' => ∃ σ' H', Inv X pins σ' H' s' ∧ Q σ' H') X.xe s
/-- o[i] = v, by values -/
abbrev TSet := V → V → V → Hp → (Hp → Prop) → Prop
def PSet (X : Cx) (t : TSet) : Prop :=
  ∀ (pins : List (Addr × Obj)) (s : Shared) (σ : St) (H : Hp) (o i v : V) (ov iv u : Value) (Q : Hp → Prop), Inv X pins σ H s → RelV o ov → RelV i iv → RelV v u → t o i v H Q →
    wpAny (model X.prog X.w) X.A (setItem ov iv u) (fun _ s' => ∃ H', Inv X pins σ H' s' ∧ Q H') X.xe s
section
variable {X : Cx} {pos : Pos}
def gName (i : Nat) : TG := fun v σ H Q => Q (σ.set i (some v)) H
theorem pg_name {i : Nat} {x : Str} (hN : X.N.Nodup) (hi : X.N[i]? = some x) (hx : Loc X.env.scope x) (hf : X.fn x = true ∨ X.env.scope.names.lookup x = some .local := by first | exact .inl rfl | exact .inr rfl | assumption) : PG X (.Name x pos) (gName i) := by
  intro pins s σ H v u Q I r h
  exact wpAny_assign_Name (store_ok I hN hi hx r (fun s' I' => ⟨_, H, I', h⟩) hf)
def gNil : TGs := fun vs σ H Q => vs = [] ∧ Q σ H
def gCons (t : TG) (u : TGs) : TGs := fun vs σ H Q => ∃ v r, vs = v :: r ∧ t v σ H fun σ' H' => u r σ' H' Q
theorem pgs_nil : PGs X [] gNil := by
  intro pins s σ H vs us Q I r h
  obtain ⟨e, h⟩ := h
  subst e
  cases r
  exact assignInOrder_nil ⟨σ, H, I, h⟩
theorem pgs_cons {e : Expr} {es : List Expr} {t : TG} {u : TGs} (h1 : PG X e t) (h2 : PGs X es u)
    (hs : (assignEach (e :: es) X.env).map (·.2) = assign e X.env :: (assignEach es X.env).map (·.2) := by rfl) : PGs X (e :: es) (gCons t u) := by
  intro pins s σ H vs us Q I r h
  obtain ⟨v, vr, e1, h⟩ := h
  subst e1
  cases r with
  | cons r rr =>
    rw [hs]
    refine assignInOrder_cons (thn (h1 pins s σ H _ _ _ I r h) fun _ s1 ⟨σ1, H1, I1, q1⟩ => ?_)
    exact h2 pins s1 σ1 H1 _ _ Q I1 rr q1
/-- (a, b, ..) = a tuple of that length -/
def gTup (K : PySem.W.Frag) (n : Nat) (t : TGs) : TG := fun v σ H Q => ∃ a xs, v = .ref a ∧ SqT K H a xs ∧ xs.length = n ∧ t xs σ H Q
theorem pg_tup {es : List Expr} {k : Nat} {t : TGs} {n : Nat} (hc : X.calm = true) (h : PGs X es t)
    (hn : (assignEach es X.env).length = n := by rfl) (hst : (assignEach es X.env).findIdx? (·.1) = none := by rfl) : PG X (.Tuple es k pos) (gTup X.K n t) := by
  intro pins s σ H v u Q I r hw
  obtain ⟨a, xs, e1, hq, hl, hw⟩ := hw
  subst e1
  cases r
  obtain ⟨its, rv, ht, hz⟩ := I.tuple hq
  refine assign_Tuple_tuple (I.ok.hd hc) ht (by simp [hn, ← hl, rv.length]) hst fun h' hx => ?_
  have I1 : Inv X pins σ H { s with heap := h' } := I.kept (t' := s.toks) fun b o e => hx b o (Nat.ne_of_lt (Heap.lt_size e)) e
  exact h pins _ σ H xs _ Q I1 (by simpa using rv) hw
/-- o[i] = .. -/
def gSub (to ti : TE) (t : TSet) : TG := fun v σ H Q => to σ H fun o H1 => ti σ H1 fun i H2 => t o i v H2 fun H3 => Q σ H3
theorem pg_sub {o i : Expr} {to ti : TE} {t : TSet} (ho : PE X o to) (hi : PE X i ti) (hs : PSet X t)
    (ha : ∀ v, assign (.Subscript o i pos) X.env v = (do
      let ov ← holding [v] (eval o X.env)
      let iv ← holding [v, ov] (eval i X.env)
      standAt pos
      holding [v, ov, iv] (setItem ov iv v)
      release [v, ov, iv] []) := by intro _; rfl) : PG X (.Subscript o i pos) (gSub to ti t) := by
  intro pins s σ H v u Q I r h
  rw [ha]
  refine wpAny_bind (wpAny_holding (thn (ho pins s σ H _ I h) fun ov s1 ⟨x, H1, I1, r1, q1⟩ => ?_))
  refine wpAny_bind (wpAny_holding (thn (hi pins s1 σ H1 _ I1 q1) fun iv s2 ⟨y, H2, I2, r2, q2⟩ => ?_))
  refine wpAny_bind (wpAny_standAt (wpAny_bind (wpAny_holding (thn (hs pins s2 σ H2 x y v ov iv u _ I2 r1 r2 r q2) fun _ s3 ⟨H3, I3, q3⟩ => ?_))))
  exact wpAny_release ⟨σ, H3, I3, q3⟩
/-- target = value -/
def tAsg (te : TE) (g : TG) : TS := fun D σ H => te σ H fun x H1 => g x σ H1 D.nx
theorem ps_asg {tg e : Expr} {te : TE} {g : TG} (he : PE X e te) (hg : PG X tg g) (hs : swapsWithSole [tg] e pos.line X.env = pure false := by rfl) (hw : swappedStores [tg] e X.env = pure none := by rfl)
    (h1 : (assignEach [tg] X.env).map (·.2) = [assign tg X.env] := by rfl) : PS X (.Assign [tg] e pos) (tAsg te g) := by
  intro pins s σ H D I h
  refine wpAny_Assign_stores (thn (he pins s σ H _ I h) fun v s1 ⟨x, H1, I1, r1, q1⟩ => ?_) hs hw
  rw [h1]
  exact thn (hg pins s1 σ H1 x v _ I1 r1 q1) fun _ s2 q => q
/-- name = value -/
theorem ps_set {i : Nat} {x : Str} {e : Expr} {te : TE} {pos' : Pos} (hN : X.N.Nodup) (hi : X.N[i]? = some x) (hx : Loc X.env.scope x) (he : PE X e te) (hs : swapsWith e (some (.Name x pos')) pos.line X.env = pure false := by rfl) (hf : X.fn x = true ∨ X.env.scope.names.lookup x = some .local := by first | exact .inl rfl | exact .inr rfl | assumption) :
    PS X (.Assign [.Name x pos'] e pos) (tAsg te (gName i)) := by
  intro pins s σ H D I h
  refine wpAny_Assign_Name (thn (he pins s σ H _ I h) fun v s1 ⟨y, H1, I1, r1, q1⟩ => ?_) hs
  exact store_ok I1 hN hi hx r1 (fun s2 I2 => ⟨_, H1, I2, q1⟩) hf
end

section
variable {X : Cx} {pos : Pos}
end

/-- at turn i: it yields x (the heap may grow), or it stops -/
structure It where
  go : Nat → Hp → Prop
  yld : Nat → Hp → V → Hp → Prop
  stop : Nat → Hp → Prop
/-- the iterator's own objects may turn: they are not the frame's, not pinned, younger than the entry (or a comprehension's own) -/
def FpOk (X : Cx) (pins : List (Addr × Obj)) (H : Hp) (b : Addr) : Prop :=
  H b = none ∧ b ≠ X.env.locals ∧ b ∉ X.fs ∧ (b ∈ X.ex ∨ X.s₀.heap.objs.size ≤ b) ∧ (∀ x c, X.env.cells.lookup x = some c → c ≠ b) ∧ ∀ p ∈ X.pn ++ pins, p.1 ≠ b
theorem Inv.fpOk {X : Cx} {pins : List (Addr × Obj)} {σ : St} {H H' : Hp} {s : Shared} {b : Addr} (I : Inv X pins σ H s) (hb : s.heap.objs.size ≤ b) (hn : H' b = none) : FpOk X pins H' b := by
  refine ⟨hn, Nat.ne_of_gt (Nat.lt_of_lt_of_le I.lt hb), I.nofs hb, .inr (Nat.le_trans I.sz hb), fun x c e z => ?_, fun p hp z => ?_⟩
  · obtain ⟨v, q⟩ := I.cell x c e
    exact absurd (Nat.lt_of_lt_of_le q.lt (by rw [z]; exact hb)) (Nat.lt_irrefl _)
  · exact absurd (Nat.lt_of_lt_of_le (Heap.lt_size (I.pin p hp).1) (by rw [z]; exact hb)) (Nat.lt_irrefl _)
structure Turn (P : Program) (w : World) (K : PySem.W.Frag) (tg : Expr) (J : It) (fp : List Addr) (it : Addr) (tn : Nat → Heap → Prop) : Prop where
  mem : it ∈ fp
  obj : ∀ i h, tn i h → ∀ b ∈ fp, ∃ o, h.get? b = some o ∧ ∀ v, o.data ≠ .cell v
  keep : ∀ i h h', tn i h → (∀ b ∈ fp, ∀ o, h.get? b = some o → h'.get? b = some o) → tn i h'
  item : ∀ (X : Cx), X.prog = P → X.w = w → X.K = K → X.calm = true → ∀ (i : Nat) (pins : List (Addr × Obj)) (s : Shared) (σ : St) (H : Hp) (E : Value → Shared → Prop), Inv X pins σ H s → (∀ b ∈ fp, FpOk X pins H b) → tn i s.heap → J.go i H →
    wpAny (model P w) X.A (pyNext (.ref it)) (fun r s1 => ∃ u, r = some u ∧
      wpAny (model P w) X.A (letOwnedTupleGo tg (.ref it) u) (fun _ s2 => ∃ x H', Inv X pins σ H' s2 ∧ RelV x u ∧ J.yld i H x H' ∧ tn (i + 1) s2.heap ∧ ∀ b ∈ fp, H' b = none) E s1) E s
  done : ∀ (X : Cx), X.prog = P → X.w = w → X.K = K → X.calm = true → ∀ (i : Nat) (pins : List (Addr × Obj)) (s : Shared) (σ : St) (H : Hp) (E : Value → Shared → Prop), Inv X pins σ H s → (∀ b ∈ fp, FpOk X pins H b) → tn i s.heap → J.stop i H →
    wpAny (model P w) X.A (pyNext (.ref it)) (fun r s1 => r = none ∧ Inv X pins σ H s1) E s
  self : ∀ (A : Around) (i : Nat) (s : Shared) (Q : Value → Shared → Prop) (E : Value → Shared → Prop), tn i s.heap → Q (.ref it) s → wpAny (model P w) A (pyIter (.ref it)) Q E s
abbrev TI := St → Hp → (It → Hp → Prop) → Prop
/-- an iterator has come -/
def PIE (X : Cx) (pins : List (Addr × Obj)) (σ : St) (tg : Expr) (R : It → Hp → Prop) (itv : Value) (s2 : Shared) : Prop :=
  ∃ (it : Addr) (fp : List Addr) (tn : Nat → Heap → Prop) (J : It) (H' : Hp), itv = .ref it ∧ Inv X pins σ H' s2 ∧ Turn X.prog X.w X.K tg J fp it tn ∧ tn 0 s2.heap ∧ (∀ b ∈ fp, FpOk X pins H' b) ∧ R J H'
def PI (X : Cx) (tg iter : Expr) (wi : TI) : Prop :=
  ∀ (pins : List (Addr × Obj)) (s : Shared) (σ : St) (H : Hp) (R : It → Hp → Prop), Inv X pins σ H s → wi σ H R →
    wpAny (model X.prog X.w) X.A (eval iter X.env) (fun v s1 => wpAny (model X.prog X.w) X.A (pyIter v) (PIE X pins σ tg R) X.xe s1) X.xe s

/-- the step ahead of the store is nothing for an iterator that keeps no tuple -/
theorem go_of {M : Model} {A : Around} {E : Value → Shared → Prop} {s : Shared} {tg : Expr} {it : Addr} {u : Value} {o : Obj} {n : String} {vs : Array Value} {Q : Unit → Shared → Prop} (ho : s.heap.get? it = some o) (hc : o.cls = .type n) (hd : o.data = .fields vs)
    (hn : ["enumerate", "zip", "dict_itemiterator", "dict_reverseitemiterator", "odict_iterator", "itertools.zip_longest", "itertools.pairwise"].contains n = false) (hQ : Q () s) : wpAny M A (letOwnedTupleGo tg (.ref it) u) Q E s := by
  unfold letOwnedTupleGo
  cases tg <;> first
    | exact wpAny_pure hQ
    | (cases u <;> first
        | exact wpAny_pure hQ
        | (refine wpAny_bind (wpAny_load ho ?_)
           rw [hc, hd]
           show wpAny M A (if (["enumerate", "zip", "dict_itemiterator", "dict_reverseitemiterator", "odict_iterator", "itertools.zip_longest", "itertools.pairwise"].contains n && vs[0]? == some (rawInt _)) = true then _ else _) Q E s
           rw [if_neg (by intro h; rw [hn, Bool.false_and] at h; cases h)]
           exact wpAny_pure hQ))

/-- lo, lo + 1, .. (n of them) -/
def Itr (lo : Int) (n : Nat) : It := ⟨fun i _ => i < n, fun i H x H' => H' = H ∧ x = .int (lo + i), fun i _ => n ≤ i⟩
theorem turn_range {P : Program} {w : World} {K : PySem.W.Frag} {tg : Expr} (it : Addr) (lo : Int) (n : Nat) : Turn P w K tg (Itr lo n) [it] it (fun i h => IsRangeIter h it (lo + (i : Nat) * 1) ((n : Int) - (i : Nat)) 1) where
  mem := by simp
  obj := fun i h st b hb => by
    have e : b = it := by simpa using hb
    subst e
    exact ⟨_, st, fun v z => by
      have z' : Data.fields _ = Data.cell v := z
      cases z'⟩
  keep := fun i h h' st k => k it (by simp) _ st
  item := by
    intro X hP hw hK hc i pins s σ H E I hf st hg
    subst hP hw hK
    obtain ⟨f0, f1, f2, f3, f4, f5⟩ := hf it (by simp)
    have W := Walks.range (prog := X.prog) (w := X.w) (I.ok.hd hc) it lo 1 n
    refine W.item i s _ _ hg st fun v h' tk hv st' kk => ?_
    obtain ⟨t, rfl⟩ := hv
    have I1 : Inv X pins σ H { s with heap := h', toks := tk } := I.turned (fun b o hb e => kk b o (by simpa using hb) e) f0 f1 f3 f4 f5
    refine ⟨_, rfl, go_of (s := { s with heap := h', toks := tk }) (n := "range_iterator") st' rfl rfl (by decide) ⟨.int (lo + i), H, I1, ⟨t, ?_⟩, ⟨rfl, rfl⟩, st', fun b hb => (hf b hb).1⟩⟩
    rw [Int.mul_one]
  done := by
    intro X hP hw hK hc i pins s σ H E I hf st hg
    subst hP hw hK
    obtain ⟨f0, f1, f2, f3, f4, f5⟩ := hf it (by simp)
    exact wpAny_pyNext_range_end (I.ok.hd hc) st (by have : n ≤ i := hg; omega) fun h' eb => ⟨rfl, I.turned (t' := s.toks) (fun b o hb e => eb b o hb e) f0 f1 f3 f4 f5⟩
  self := fun _ _ _ _ _ st h => wpAny_pyIter_rangeiter st h
end L2

namespace L2
open PySem PySem.Spec PyProof.Rows
section
variable {X : Cx} {tg : Expr}
/-- a range object just made, walked -/
theorem range_it {pins : List (Addr × Obj)} {σ : St} {H : Hp} {s : Shared} {R : It → Hp → Prop} {E : Value → Shared → Prop} {lo hi : Int} {t u v : Tok} {tk : Nat} (I : Inv X pins σ H s) (h1 : -(2 ^ 62) ≤ lo) (h2 : lo < 2 ^ 62) (h3 : -(2 ^ 62) ≤ hi) (h4 : hi < 2 ^ 62)
    (q : R (Itr lo (hi - lo).toNat) H) : wpAny (model X.prog X.w) X.A (pyIter (.ref s.heap.objs.size)) (PIE X pins σ tg R) E { s with heap := s.heap.push { cls := .type "range", data := .fields #[.int lo t, .int hi u, .int 1 v] }, toks := tk } := by
  refine wpAny_pyIter_range (IsRange.new ..) (small_one h1 h2 h3 h4) ?_
  have I1 : Inv X pins σ H { s with heap := s.heap.push { cls := .type "range", data := .fields #[.int lo t, .int hi u, .int 1 v] }, toks := tk } := I.kept fun b o e => Heap.get?_push_of_some _ e
  refine ⟨(s.heap.push { cls := .type "range", data := .fields #[.int lo t, .int hi u, .int 1 v] }).objs.size, [(s.heap.push { cls := .type "range", data := .fields #[.int lo t, .int hi u, .int 1 v] }).objs.size], _, _, H, rfl,
    I1.kept (t' := tk) fun b o e => Heap.get?_push_of_some _ e, turn_range _ lo (hi - lo).toNat, ?_, fun b hb => ?_, q⟩
  · have e1 : lo + ((0 : Nat) : Int) * 1 = lo := by simp
    have e2 : (((hi - lo).toNat : Nat) : Int) - ((0 : Nat) : Int) = Builtin.Range.rangeSize lo hi 1 := by rw [rangeSize_one]; split <;> omega
    show IsRangeIter _ _ (lo + ((0 : Nat) : Int) * 1) ((((hi - lo).toNat : Nat) : Int) - ((0 : Nat) : Int)) 1
    rw [e1, e2]
    exact Heap.get?_push_size _ rfl
  · have e : b = (s.heap.push { cls := .type "range", data := .fields #[.int lo t, .int hi u, .int 1 v] }).objs.size := by simpa using hb
    subst e
    exact I1.fpOk (Nat.le_refl _) (I1.hok.fresh (Nat.le_refl _))
def iRng1 (ta : TA) : TI := fun σ H R => ta σ H fun vs H1 => ∃ j : Int, vs = [.int j] ∧ -(2 ^ 62) ≤ j ∧ j < 2 ^ 62 ∧ R (Itr 0 j.toNat) H1
def iRng2 (ta : TA) : TI := fun σ H R => ta σ H fun vs H1 => ∃ i j : Int, vs = [.int i, .int j] ∧ (-(2 ^ 62) ≤ i ∧ i < 2 ^ 62 ∧ -(2 ^ 62) ≤ j ∧ j < 2 ^ 62) ∧ R (Itr i (j - i).toNat) H1
theorem pi_range1 {a : Expr} {ta : TA} {p pos : Pos} (hg : Gl X "range") (hm : X.mg "range" = none) (ha : PA X [a] ta) (hs : starEach [a] X.env = [(false, eval a X.env)] := by rfl) : PI X tg (.Call (.Name "range" p) [a] [] pos) (iRng1 ta) := by
  intro pins s σ H R I h
  refine Call_ (ld_blt I hg hm boot_range (PyProof.Rows.callWith_type1 (thn (ha pos pins s σ H _ I h) fun us s1 ⟨vs, H1, I1, r1, q1⟩ => ?_) hs rfl))
  obtain ⟨j, e, q1, q2, q⟩ := q1
  subst e
  cases r1 with
  | cons r rr =>
    cases rr
    obtain ⟨t, rfl⟩ := r
    exact call_range_1 (range_it I1 (by omega) (by omega) q1 q2 (by simpa using q))
theorem pi_range2 {a b : Expr} {ta : TA} {p pos : Pos} (hg : Gl X "range") (hm : X.mg "range" = none) (ha : PA X [a, b] ta) (hs : starEach [a, b] X.env = [(false, eval a X.env), (false, eval b X.env)] := by rfl) (hs2 : starEach [b] X.env = [(false, eval b X.env)] := by rfl) :
    PI X tg (.Call (.Name "range" p) [a, b] [] pos) (iRng2 ta) := by
  intro pins s σ H R I h
  refine Call_ (ld_blt I hg hm boot_range (PyProof.Rows.callWith_type1 (thn (ha pos pins s σ H _ I h) fun us s1 ⟨vs, H1, I1, r1, q1⟩ => ?_) (by rw [hs, hs2]) (by rw [hs2]; rfl)))
  obtain ⟨i, j, e, ⟨q1, q2, q3, q4⟩, q⟩ := q1
  subst e
  cases r1 with
  | cons r rr =>
    cases rr with
    | cons r' rr =>
      cases rr
      obtain ⟨t, rfl⟩ := r
      obtain ⟨t', rfl⟩ := r'
      exact call_range_2 (range_it I1 q1 q2 q3 q4 q)

/-- W: the invariant by the turn and a measure; N: what the body is to reach -/
def tFor (wi : TI) (g : TG) (tb : TS) : TS := fun D σ H => wi σ H fun J H1 => ∃ W : Nat → Nat → St → Hp → Prop, (∃ m, W 0 m σ H1) ∧ ∀ i m σ H, W i m σ H →
  (J.stop i H ∧ D.nx σ H) ∨ (J.go i H ∧ ∃ N : St → Hp → Prop, (∀ σ' H', N σ' H' → ∃ m', m' < m ∧ W (i + 1) m' σ' H') ∧ ∀ x H', J.yld i H x H' → g x σ H' fun σ2 H2 => tb { D with nx := N, ct := N, bk := D.nx } σ2 H2)
/-- the records at fp as they stand -/
def pinsAt (fp : List Addr) (h : Heap) : List (Addr × Obj) := fp.filterMap fun b => (h.get? b).map fun o => (b, o)
theorem mem_pinsAt {fp : List Addr} {h : Heap} {b : Addr} {o : Obj} (hb : b ∈ fp) (e : h.get? b = some o) : (b, o) ∈ pinsAt fp h := List.mem_filterMap.mpr ⟨b, hb, by rw [e]; rfl⟩
theorem of_pinsAt {fp : List Addr} {h : Heap} {p : Addr × Obj} (hp : p ∈ pinsAt fp h) : p.1 ∈ fp ∧ h.get? p.1 = some p.2 := by
  obtain ⟨b, hb, e⟩ := List.mem_filterMap.mp hp
  cases q : h.get? b with
  | none => rw [q] at e; cases e
  | some o =>
    rw [q] at e
    have e' : (b, o) = p := Option.some.inj e
    subst e'
    exact ⟨hb, q⟩
theorem Inv.pinned {pins : List (Addr × Obj)} {σ : St} {H : Hp} {s : Shared} {fp : List Addr} (I : Inv X pins σ H s) (hf : ∀ b ∈ fp, FpOk X pins H b) (ho : ∀ b ∈ fp, ∃ o, s.heap.get? b = some o ∧ ∀ v, o.data ≠ .cell v) : Inv X (pins ++ pinsAt fp s.heap) σ H s :=
  I.pins_of fun p hp => (List.mem_append.mp hp).elim (fun z => I.pin p (List.mem_append_right _ z)) fun z => by
    obtain ⟨hb, e⟩ := of_pinsAt z
    obtain ⟨f0, f1, f2, _⟩ := hf p.1 hb
    obtain ⟨o, e', d⟩ := ho p.1 hb
    rw [e] at e'; cases e'
    exact ⟨e, f0, f1, f2, d⟩
theorem Inv.unpinned {pins pl : List (Addr × Obj)} {σ : St} {H : Hp} {s : Shared} (I : Inv X (pins ++ pl) σ H s) : Inv X pins σ H s := I.pins_of fun p hp => I.pin p (List.mem_append_right _ (List.mem_append_left _ hp))
theorem ps_for {iter : Expr} {body : List Stmt} {wi : TI} {g : TG} {tb : TS} {pos : Pos} (hp : PassesOwn (model X.prog X.w) X.A X.env X.xe) (hc : X.calm = true) (hi : PI X tg iter wi) (hg : PG X tg g) (hb : PSs X body tb)
    (hs : ∀ x, foldedSetIterable iter X.env x = pure x := by intro _; rfl) : PS X (.For tg iter body [] pos) (tFor wi g tb) := by
  intro pins s σ H D I h
  refine wpAny_For (thn (hi pins s σ H _ I h) fun v s1 h1 => thn h1 fun itv s2 h2 => ?_) hs
  obtain ⟨it, fp, tn, J, H2, e, I2, T, st2, f2, W, ⟨m0, w0⟩, turn⟩ := h2
  subst e
  -- what stays true of the iterator's objects through the loop
  have stat : ∀ {H' : Hp}, (∀ b ∈ fp, H' b = none) → ∀ b ∈ fp, FpOk X pins H' b := fun hn b hb => ⟨hn b hb, (f2 b hb).2⟩
  refine codeAny_forLoop_any (fun n s' => ∃ i σ' H', Inv X pins σ' H' s' ∧ tn i s'.heap ∧ (∀ b ∈ fp, H' b = none) ∧ W i n σ' H') ?_ m0 ⟨0, σ, H2, I2, st2, fun b hb => (f2 b hb).1, w0⟩
  rintro n s3 ⟨i, σ3, H3, I3, st3, fr3, w3⟩
  rcases turn i n σ3 H3 w3 with ⟨stop, qn⟩ | ⟨go, N, hN, step⟩
  · refine wpAny_passesOwn hp (thn (T.done X rfl rfl rfl hc i pins s3 σ3 H3 X.xe I3 (stat fr3) st3 stop) fun r s4 ⟨hr, I4⟩ => ?_)
    subst hr
    exact wpAny_execs_nil ⟨σ3, H3, I4, qn⟩
  · refine wpAny_passesOwn hp (thn (T.item X rfl rfl rfl hc i pins s3 σ3 H3 X.xe I3 (stat fr3) st3 go) fun r s4 ⟨u, hr, h4⟩ => ?_)
    subst hr
    refine wpAny_passesOwn hp (thn h4 fun _ s5 ⟨x, H5, I5, r5, y5, st5, fr5⟩ => ?_)
    have I5' := I5.pinned (stat fr5) (T.obj _ _ st5)
    refine wpAny_passesOwn hp (thn (hg _ s5 σ3 H5 x u _ I5' r5 (step x H5 y5)) fun _ s6 ⟨σ6, H6, I6, q6⟩ => ?_)
    refine wpAny_passesOwn hp (thn (hb _ s6 σ6 H6 _ I6 q6) fun f s7 q7 => ?_)
    have again : ∀ {σ7 : St} {H7 : Hp}, Inv X (pins ++ pinsAt fp s5.heap) σ7 H7 s7 → N σ7 H7 → ∃ m, m < n ∧ ∃ i σ' H', Inv X pins σ' H' s7 ∧ tn i s7.heap ∧ (∀ b ∈ fp, H' b = none) ∧ W i m σ' H' := fun {σ7 H7} I7 n7 => by
      obtain ⟨m', hm, w7⟩ := hN σ7 H7 n7
      refine ⟨m', hm, i + 1, σ7, H7, I7.unpinned, T.keep _ _ _ st5 fun b hb o e => (I7.pin (b, o) (List.mem_append_right _ (List.mem_append_right _ (mem_pinsAt hb e)))).1, fun b hb => ?_, w7⟩
      obtain ⟨o, e, d⟩ := T.obj _ _ st5 b hb
      exact (I7.pin (b, o) (List.mem_append_right _ (List.mem_append_right _ (mem_pinsAt hb e)))).2.1
    cases f with
    | next => obtain ⟨σ7, H7, I7, n7⟩ := q7; exact again I7 n7
    | cont => obtain ⟨σ7, H7, I7, n7⟩ := q7; exact again I7 n7
    | brk => obtain ⟨σ7, H7, I7, q7⟩ := q7; exact ⟨σ7, H7, I7.unpinned, q7⟩
    | ret v => obtain ⟨x7, σ7, H7, I7, r7, q7⟩ := q7; exact ⟨x7, σ7, H7, I7.unpinned, r7, q7⟩
end

theorem for_range {lo : Int} {n : Nat} {g : TG} {tb : TS} {D : Ends} {σ : St} {H : Hp} (Pv : Nat → St → Hp → Prop) (h0 : Pv 0 σ H)
    (hs : ∀ i σ H, i < n → Pv i σ H → g (.int (lo + i)) σ H fun σ2 H2 => tb { D with nx := Pv (i + 1), ct := Pv (i + 1), bk := D.nx } σ2 H2) (hd : ∀ σ H, Pv n σ H → D.nx σ H) :
    ∃ W : Nat → Nat → St → Hp → Prop, (∃ m, W 0 m σ H) ∧ ∀ i m σ H, W i m σ H →
      ((Itr lo n).stop i H ∧ D.nx σ H) ∨ ((Itr lo n).go i H ∧ ∃ N : St → Hp → Prop, (∀ σ' H', N σ' H' → ∃ m', m' < m ∧ W (i + 1) m' σ' H') ∧ ∀ x H', (Itr lo n).yld i H x H' → g x σ H' fun σ2 H2 => tb { D with nx := N, ct := N, bk := D.nx } σ2 H2) := by
  refine ⟨fun i m σ H => m = n - i ∧ i ≤ n ∧ Pv i σ H, ⟨n, by simp, Nat.zero_le _, h0⟩, ?_⟩
  rintro i m σ H ⟨rfl, hi, p⟩
  by_cases hlt : i < n
  · refine .inr ⟨hlt, Pv (i + 1), fun σ' H' p' => ⟨n - (i + 1), by omega, rfl, hlt, p'⟩, fun x H' y => ?_⟩
    obtain ⟨e, y⟩ := y
    subst e y
    exact hs i σ _ hlt p
  · have e : i = n := by omega
    subst e
    exact .inl ⟨Nat.le_refl _, hd σ H p⟩
end L2

namespace L2
open PySem PySem.Spec PyProof.Rows

abbrev R2 := V → V → Hp → VK → Prop
/-- a two-place operation on values: f is binaryOp op, inplaceOp op or compareOp op -/
def OpR (X : Cx) (f : Value → Value → Sem Value) (r : R2) : Prop :=
  ∀ (pins : List (Addr × Obj)) (s : Shared) (σ : St) (H : Hp) (x y : V) (v u : Value) (Q : VK), Inv X pins σ H s → RelV x v → RelV y u → r x y H Q →
    wpAny (model X.prog X.w) X.A (f v u) (EP X pins σ Q) X.xe s
/-- a one-place operation -/
def UnR (X : Cx) (f : Value → Sem Value) (r : V → Hp → VK → Prop) : Prop :=
  ∀ (pins : List (Addr × Obj)) (s : Shared) (σ : St) (H : Hp) (x : V) (v : Value) (Q : VK), Inv X pins σ H s → RelV x v → r x H Q →
    wpAny (model X.prog X.w) X.A (f v) (EP X pins σ Q) X.xe s
/-- a call of a value that is known (a builtin, a type) with values -/
def CallR (X : Cx) (f : Value) (r : List V → Hp → VK → Prop) : Prop :=
  ∀ (pins : List (Addr × Obj)) (s : Shared) (σ : St) (H : Hp) (xs : List V) (us : List Value) (Q : VK), Inv X pins σ H s → Vals xs us → r xs H Q →
    wpAny (model X.prog X.w) X.A (call f us) (EP X pins σ Q) X.xe s
/-- a value's truth -/
def TruR (X : Cx) (r : V → Hp → (Bool → Hp → Prop) → Prop) : Prop :=
  ∀ (pins : List (Addr × Obj)) (s : Shared) (σ : St) (H : Hp) (x : V) (v : Value) (Q : Bool → Hp → Prop), Inv X pins σ H s → RelV x v → r x H Q →
    wpAny (model X.prog X.w) X.A (truthy v) (TP X pins σ Q) X.xe s

def tOp (r : R2) (ta tb : TE) : TE := fun σ H Q => ta σ H fun x H1 => tb σ H1 fun y H2 => r x y H2 Q
def tUn (r : V → Hp → VK → Prop) (ta : TE) : TE := fun σ H Q => ta σ H fun x H1 => r x H1 Q
/-- ints in, under C, and a value out -/
def rI (C : Int → Int → Prop) (g : Int → Int → V) : R2 := fun x y H Q => ∃ i j, x = .int i ∧ y = .int j ∧ C i j ∧ Q (g i j) H
def rI0 (g : Int → Int → V) : R2 := fun x y H Q => ∃ i j, x = .int i ∧ y = .int j ∧ Q (g i j) H
def rU (g : Int → V) : V → Hp → VK → Prop := fun x H Q => ∃ i, x = .int i ∧ Q (g i) H

section
variable {X : Cx} {a b c : Expr} {ta tb tc : TE} {pos : Pos}

theorem binT (ha : PE X a ta) (hb : PE X b tb) {pins : List (Addr × Obj)} {s : Shared} {σ : St} {H : Hp} {R : V → V → Hp → Prop} (I : Inv X pins σ H s)
    (h : ta σ H fun x H1 => tb σ H1 fun y H2 => R x y H2) {Q : Value → Shared → Prop} {f : Value → Value → Sem Value}
    (hf : ∀ v u s2 x y H2, Inv X pins σ H2 s2 → RelV x v → RelV y u → R x y H2 → wpAny (model X.prog X.w) X.A (f v u) Q X.xe s2) :
    wpAny (model X.prog X.w) X.A (eval a X.env) (fun v s₁ => wpAny (model X.prog X.w) X.A (eval b X.env) (fun u s₂ => wpAny (model X.prog X.w) X.A (f v u) Q X.xe s₂) X.xe s₁) X.xe s := by
  refine thn (ha pins s σ H _ I h) fun v s1 ⟨x, H1, I1, r1, q1⟩ => ?_
  refine thn (hb pins s1 σ H1 _ I1 q1) fun u s2 ⟨y, H2, I2, r2, q2⟩ => ?_
  exact hf v u s2 x y H2 I2 r1 r2 q2

theorem pe_op {op : Operator} {r : R2} (ho : OpR X (binaryOp op) r) (ha : PE X a ta) (hb : PE X b tb) : PE X (.BinOp a op b pos) (tOp r ta tb) := by
  intro pins s σ H Q I h
  exact wpAny_BinOp (binT ha hb I h fun v u s2 x y H2 I2 rx ry q => ho pins s2 σ H2 x y v u Q I2 rx ry q)
theorem pe_un {op : UnaryOp} {r : V → Hp → VK → Prop} (ho : UnR X (unaryOp op) r) (ha : PE X a ta) : PE X (.UnaryOp op a pos) (tUn r ta) := by
  intro pins s σ H Q I h
  exact UnaryOp_ (thn (ha pins s σ H _ I h) fun v s1 ⟨x, H1, I1, r1, q1⟩ => ho pins s1 σ H1 x v Q I1 r1 q1)
theorem opI {f : Value → Value → Sem Value} {C : Int → Int → Prop} {g : Int → Int → Int}
    (rule : ∀ (i j : Int) (t u : Tok) (s : Shared) (Q : Value → Shared → Prop) (E : Value → Shared → Prop), C i j → Q (.int (g i j) s.toks) { s with toks := s.toks + 1 } → wpAny (model X.prog X.w) X.A (f (.int i t) (.int j u)) Q E s) :
    OpR X f (rI C fun i j => .int (g i j)) := by
  intro pins s σ H x y v u Q I rx ry h
  obtain ⟨i, j, rfl, rfl, hc, q⟩ := h
  obtain ⟨t, rfl⟩ := rx
  obtain ⟨t', rfl⟩ := ry
  exact rule i j t t' s _ _ hc ⟨.int (g i j), H, I.tok _, ⟨_, rfl⟩, q⟩
theorem opI0 {f : Value → Value → Sem Value} {g : Int → Int → Int}
    (rule : ∀ (i j : Int) (t u : Tok) (s : Shared) (Q : Value → Shared → Prop) (E : Value → Shared → Prop), Q (.int (g i j) s.toks) { s with toks := s.toks + 1 } → wpAny (model X.prog X.w) X.A (f (.int i t) (.int j u)) Q E s) :
    OpR X f (rI0 fun i j => .int (g i j)) := by
  intro pins s σ H x y v u Q I rx ry h
  obtain ⟨i, j, rfl, rfl, q⟩ := h
  obtain ⟨t, rfl⟩ := rx
  obtain ⟨t', rfl⟩ := ry
  exact rule i j t t' s _ _ ⟨.int (g i j), H, I.tok _, ⟨_, rfl⟩, q⟩
theorem opB0 {f : Value → Value → Sem Value} {g : Int → Int → Bool}
    (rule : ∀ (i j : Int) (t u : Tok) (s : Shared) (Q : Value → Shared → Prop) (E : Value → Shared → Prop), Q (.bool (g i j)) s → wpAny (model X.prog X.w) X.A (f (.int i t) (.int j u)) Q E s) :
    OpR X f (rI0 fun i j => .bl (g i j)) := by
  intro pins s σ H x y v u Q I rx ry h
  obtain ⟨i, j, rfl, rfl, q⟩ := h
  obtain ⟨t, rfl⟩ := rx
  obtain ⟨t', rfl⟩ := ry
  exact rule i j t t' s _ _ ⟨.bl (g i j), H, I, rfl, q⟩

def CDiv (i j : Int) : Prop := 0 < j ∧ j < 1073741824
def CMul (i j : Int) : Prop := (-(2 ^ 64) < i ∧ i < 2 ^ 64) ∨ (-(2 ^ 64) < j ∧ j < 2 ^ 64)
theorem CMul.ok {i j : Int} (h : CMul i j) : IntMulOk i j := by
  rcases h with ⟨h1, h2⟩ | ⟨h1, h2⟩
  · exact .of_left (intBits_le_64 h1 h2)
  · exact .of_right (intBits_le_64 h1 h2)
theorem op_add : OpR X (binaryOp .Add) (rI0 fun i j => .int (i + j)) := opI0 fun _ _ _ _ _ _ _ q => add_int q
theorem op_sub : OpR X (binaryOp .Sub) (rI0 fun i j => .int (i - j)) := opI0 fun _ _ _ _ _ _ _ q => sub_int q
theorem op_mul : OpR X (binaryOp .Mult) (rI CMul fun i j => .int (i * j)) := opI fun _ _ _ _ _ _ _ hc q => mul_int q hc.ok
/-- // by a positive divisor -/
theorem op_fdiv : OpR X (binaryOp .FloorDiv) (rI CDiv fun i j => .int (i / j)) := opI fun i j _ _ _ _ _ hc q => by
  have h1 : (0 : Int) < j := hc.1
  have h2 : j < 1073741824 := hc.2
  exact floordiv_int (by omega) (by rw [Int.fdiv_eq_ediv_of_nonneg i (by omega)]; exact q) (.inl (PyProof.noPylong_small (by omega)))
/-- % by a positive divisor of any size -/
theorem op_mod : OpR X (binaryOp .Mod) (rI (fun _ j => 0 < j) fun i j => .int (i % j)) := opI fun i j _ _ _ _ _ hc q => by
  have h1 : (0 : Int) < j := hc
  exact mod_int' (by omega) (by rw [Int.fmod_eq_emod_of_nonneg i (by omega)]; exact q)
theorem unI {f : Value → Sem Value} {g : Int → Int}
    (rule : ∀ (i : Int) (t : Tok) (s : Shared) (Q : Value → Shared → Prop) (E : Value → Shared → Prop), Q (.int (g i) s.toks) { s with toks := s.toks + 1 } → wpAny (model X.prog X.w) X.A (f (.int i t)) Q E s) :
    UnR X f (rU fun i => .int (g i)) := by
  intro pins s σ H x v Q I rx h
  obtain ⟨i, rfl, q⟩ := h
  obtain ⟨t, rfl⟩ := rx
  exact rule i t s _ _ ⟨.int (g i), H, I.tok _, ⟨_, rfl⟩, q⟩
theorem un_neg : UnR X (unaryOp .USub) (rU fun i => .int (-i)) := unI fun _ _ _ _ _ q => neg_int q
end

/-- the scalars that == tells apart as data does -/
def scal : V → V → Bool
  | .non, .non => true | .non, .int _ => true | .int _, .non => true | .non, .bl _ => true | .bl _, .non => true | .non, .str _ => true | .str _, .non => true
  | .int _, .int _ => true | .bl _, .bl _ => true | .str _, .str _ => true | .byt _, .byt _ => true
  | .int _, .str _ => true | .str _, .int _ => true | .bl _, .str _ => true | .str _, .bl _ => true
  | _, _ => false
def rEq : R2 := fun x y H Q => scal x y = true ∧ Q (.bl (decide (x = y))) H
def rNe : R2 := fun x y H Q => scal x y = true ∧ Q (.bl (!decide (x = y))) H

theorem dec_int {i j : Int} : decide (V.int i = V.int j) = (i == j) := by
  rw [Bool.eq_iff_iff]
  simp
theorem dec_bl {i j : Bool} : decide (V.bl i = V.bl j) = (i == j) := by
  rw [Bool.eq_iff_iff]
  simp
theorem dec_str {i j : Str} : decide (V.str i = V.str j) = (i == j) := by
  rw [Bool.eq_iff_iff]
  simp
theorem dec_byt {i j : Array UInt8} : decide (V.byt i = V.byt j) = (i.toList == j.toList) := by
  rw [Bool.eq_iff_iff]
  cases i
  cases j
  simp

section
variable {X : Cx} {a b c : Expr} {ta tb tc : TE} {pos : Pos}
theorem fin_bl {pins : List (Addr × Obj)} {σ : St} {H : Hp} {s : Shared} {Q : VK} {k k' : Bool} (I : Inv X pins σ H s) (q : Q (.bl k) H) (e : k = k') : EP X pins σ Q (.bool k') s := by
  subst e
  exact ⟨.bl k, H, I, rfl, q⟩
theorem op_eq : OpR X (compareOp .Eq) rEq := by
  intro pins s σ H x y v u Q I rx ry h
  obtain ⟨hs, q⟩ := h
  cases x with
  | non =>
    cases rx
    cases y with
    | non => cases ry; exact PySem.EqNone.eq_none_none (fin_bl I q (by simp))
    | bl j => cases ry; exact PySem.EqNone.eq_none_bool (fin_bl I q (by simp))
    | int j => obtain ⟨t', rfl⟩ := ry; exact PySem.EqNone.eq_none_int (fin_bl I q (by simp))
    | str j => obtain ⟨t', rfl⟩ := ry; exact PySem.EqNone.eq_none_str (fin_bl I q (by simp))
    | _ => exact absurd (show false = true from hs) Bool.false_ne_true
  | bl i =>
    cases rx
    cases y with
    | non => cases ry; exact PySem.EqNone.eq_bool_none (fin_bl I q (by simp))
    | bl j => cases ry; exact eq_bool (fin_bl I q dec_bl)
    | str j => obtain ⟨t', rfl⟩ := ry; exact PySem.EqMixed.eq_bool_str (fin_bl I q (by simp))
    | _ => exact absurd (show false = true from hs) Bool.false_ne_true
  | int i =>
    obtain ⟨t, rfl⟩ := rx
    cases y with
    | non => cases ry; exact PySem.EqNone.eq_int_none (fin_bl I q (by simp))
    | int j => obtain ⟨t', rfl⟩ := ry; exact eq_int (fin_bl I q dec_int)
    | str j => obtain ⟨t', rfl⟩ := ry; exact PySem.EqMixed.eq_int_str (fin_bl I q (by simp))
    | _ => exact absurd (show false = true from hs) Bool.false_ne_true
  | str i =>
    obtain ⟨t, rfl⟩ := rx
    cases y with
    | non => cases ry; exact PySem.EqNone.eq_str_none (fin_bl I q (by simp))
    | bl j => cases ry; exact PySem.EqMixed.eq_str_bool (fin_bl I q (by simp))
    | int j => obtain ⟨t', rfl⟩ := ry; exact PySem.EqMixed.eq_str_int (fin_bl I q (by simp))
    | str j => obtain ⟨t', rfl⟩ := ry; exact eq_str (fin_bl I q dec_str)
    | _ => exact absurd (show false = true from hs) Bool.false_ne_true
  | byt i =>
    obtain ⟨t, rfl⟩ := rx
    cases y with
    | byt j => obtain ⟨t', rfl⟩ := ry; exact PySem.W.eq_bytes (fin_bl I q dec_byt)
    | _ => exact absurd (show false = true from hs) Bool.false_ne_true
  | _ => cases y <;> exact absurd (show false = true from hs) Bool.false_ne_true
theorem op_ne : OpR X (compareOp .NotEq) rNe := by
  intro pins s σ H x y v u Q I rx ry h
  obtain ⟨hs, q⟩ := h
  cases x with
  | non =>
    cases rx
    cases y with
    | non => cases ry; exact PySem.EqNone.ne_none_none (fin_bl I q (by simp))
    | bl j => cases ry; exact PySem.EqNone.ne_none_bool (fin_bl I q (by simp))
    | int j => obtain ⟨t', rfl⟩ := ry; exact PySem.EqNone.ne_none_int (fin_bl I q (by simp))
    | str j => obtain ⟨t', rfl⟩ := ry; exact PySem.EqNone.ne_none_str (fin_bl I q (by simp))
    | _ => exact absurd (show false = true from hs) Bool.false_ne_true
  | bl i =>
    cases rx
    cases y with
    | non => cases ry; exact PySem.EqNone.ne_bool_none (fin_bl I q (by simp))
    | bl j => cases ry; exact ne_bool (fin_bl I q (congrArg not dec_bl))
    | str j => obtain ⟨t', rfl⟩ := ry; exact PySem.EqMixed.ne_bool_str (fin_bl I q (by simp))
    | _ => exact absurd (show false = true from hs) Bool.false_ne_true
  | int i =>
    obtain ⟨t, rfl⟩ := rx
    cases y with
    | non => cases ry; exact PySem.EqNone.ne_int_none (fin_bl I q (by simp))
    | int j => obtain ⟨t', rfl⟩ := ry; exact ne_int (fin_bl I q (congrArg not dec_int))
    | str j => obtain ⟨t', rfl⟩ := ry; exact PySem.EqMixed.ne_int_str (fin_bl I q (by simp))
    | _ => exact absurd (show false = true from hs) Bool.false_ne_true
  | str i =>
    obtain ⟨t, rfl⟩ := rx
    cases y with
    | non => cases ry; exact PySem.EqNone.ne_str_none (fin_bl I q (by simp))
    | bl j => cases ry; exact PySem.EqMixed.ne_str_bool (fin_bl I q (by simp))
    | int j => obtain ⟨t', rfl⟩ := ry; exact PySem.EqMixed.ne_str_int (fin_bl I q (by simp))
    | str j => obtain ⟨t', rfl⟩ := ry; exact ne_str (fin_bl I q (congrArg not dec_str))
    | _ => exact absurd (show false = true from hs) Bool.false_ne_true
  | byt i =>
    obtain ⟨t, rfl⟩ := rx
    cases y with
    | byt j => obtain ⟨t', rfl⟩ := ry; exact PySem.W.ne_bytes (fin_bl I q (congrArg not dec_byt))
    | _ => exact absurd (show false = true from hs) Bool.false_ne_true
  | _ => cases y <;> exact absurd (show false = true from hs) Bool.false_ne_true

theorem op_lt : OpR X (compareOp .Lt) (rI0 fun i j => .bl (decide (i < j))) := opB0 fun _ _ _ _ _ _ _ q => lt_int q
theorem op_le : OpR X (compareOp .LtE) (rI0 fun i j => .bl (decide (i ≤ j))) := opB0 fun _ _ _ _ _ _ _ q => le_int q
theorem op_gt : OpR X (compareOp .Gt) (rI0 fun i j => .bl (decide (j < i))) := opB0 fun _ _ _ _ _ _ _ q => gt_int q
/-- is None, is not None: the right side a value none -/
theorem op_isN : OpR X (compareOp .Is) (fun x y H Q => y = .non ∧ Q (.bl (decide (x = .non))) H) := by
  intro pins s σ H x y v u Q I rx ry h
  obtain ⟨rfl, q⟩ := h
  cases ry
  refine is_none_gen (fin_bl I q ?_)
  cases x <;> first
    | (cases rx; rfl)
    | (obtain ⟨t, rfl⟩ := rx; rfl)
theorem op_notN : OpR X (compareOp .IsNot) (fun x y H Q => y = .non ∧ Q (.bl (!decide (x = .non))) H) := by
  intro pins s σ H x y v u Q I rx ry h
  obtain ⟨rfl, q⟩ := h
  cases ry
  refine isnot_none_gen (fin_bl I q ?_)
  cases x <;> first
    | (cases rx; rfl)
    | (obtain ⟨t, rfl⟩ := rx; rfl)

theorem nomark (b : Expr) {op : CmpOp} (h : op ≠ .In := by decide) (h2 : op ≠ .NotIn := by decide) : behindInMarks op b = false := by
  have e1 : (op == CmpOp.In) = false := by cases op <;> first | rfl | exact absurd rfl h
  have e2 : (op == CmpOp.NotIn) = false := by cases op <;> first | rfl | exact absurd rfl h2
  cases b <;> simp [behindInMarks, e1, e2]
/-- a comparison as a value; hm: nomark b, or (for in, not in) by with_unfolding_all rfl -/
theorem pe_cmpR {op : CmpOp} {r : R2} (ho : OpR X (compareOp op) r) (ha : PE X a ta) (hb : PE X b tb) (hm : behindInMarks op b = false) : PE X (.Compare a [op] [b] pos) (tOp r ta tb) := by
  intro pins s σ H Q I h
  exact wpAny_Compare1 (binT ha hb I h fun v u s2 x y H2 I2 rx ry q => ho pins s2 σ H2 x y v u Q I2 rx ry q) hm
/-- a reading of a value as a test -/
def tTest (t : TE) : TT := fun σ H Q => t σ H fun x H' => ∃ k, x = .bl k ∧ Q k H'
theorem pt_cmpR {op : CmpOp} {r : R2} (ho : OpR X (compareOp op) r) (ha : PE X a ta) (hb : PE X b tb) (hm : behindInMarks op b = false) : PT X (.Compare a [op] [b] pos) (tTest (tOp r ta tb)) := by
  intro pins s σ H Q I h
  refine wpAny_isTrue_Compare1 (thn (ha pins s σ H _ I h) fun v s1 ⟨x, H1, I1, r1, q1⟩ => thn (hb pins s1 σ H1 _ I1 q1) fun u s2 ⟨y, H2, I2, r2, q2⟩ =>
    thn (ho pins s2 σ H2 x y v u _ I2 r1 r2 q2) fun c s3 ⟨z, H3, I3, r3, k, e, q3⟩ => ?_) hm
  subst e
  cases r3
  exact wpAny_truthy_bool ⟨H3, I3, q3⟩
/-- a op1 b op2 c -/
def tChain (r r' : R2) (ta tb tc : TE) : TE := fun σ H Q => ta σ H fun x H1 => tb σ H1 fun y H2 => r x y H2 fun z H3 => ∃ k, z = .bl k ∧
  (if k = true then tc σ H3 fun w' H4 => r' y w' H4 Q else Q (.bl false) H3)
theorem pe_chain {op op' : CmpOp} {r r' : R2} (ho : OpR X (compareOp op) r) (ho' : OpR X (compareOp op') r') (ha : PE X a ta) (hb : PE X b tb) (hc : PE X c tc)
    (hm : lastMarks [op, op'] [b, c] = false := by with_unfolding_all rfl) : PE X (.Compare a [op, op'] [b, c] pos) (tChain r r' ta tb tc) := by
  intro pins s σ H Q I h
  refine Compare_chain (thn (ha pins s σ H _ I h) fun v s1 ⟨x, H1, I1, r1, q1⟩ => chain_link (thn (hb pins s1 σ H1 _ I1 q1) fun u s2 ⟨y, H2, I2, r2, q2⟩ =>
    thn (ho pins s2 σ H2 x y v u _ I2 r1 r2 q2) fun d s3 ⟨z, H3, I3, r3, k, e, q3⟩ => ?_)) hm
  subst e
  cases r3
  refine wpAny_truthy_bool ?_
  cases k with
  | false => exact ite_ff ⟨.bl false, H3, I3, rfl, q3⟩
  | true => exact ite_tt (chain_last (thn (hc pins s3 σ H3 _ I3 q3) fun w' s4 ⟨z', H4, I4, r4, q4⟩ => ho' pins s4 σ H4 y z' u w' Q I4 r2 r4 q4))
theorem pt_chain {op op' : CmpOp} {r r' : R2} (ho : OpR X (compareOp op) r) (ho' : OpR X (compareOp op') r') (ha : PE X a ta) (hb : PE X b tb) (hc : PE X c tc)
    (hm : lastMarks [op, op'] [b, c] = false := by with_unfolding_all rfl) : PT X (.Compare a [op, op'] [b, c] pos) (tTest (tChain r r' ta tb tc)) := by
  intro pins s σ H Q I h
  refine isTrue_chain (thn (ha pins s σ H _ I h) fun v s1 ⟨x, H1, I1, r1, q1⟩ => test_link (thn (hb pins s1 σ H1 _ I1 q1) fun u s2 ⟨y, H2, I2, r2, q2⟩ =>
    thn (ho pins s2 σ H2 x y v u _ I2 r1 r2 q2) fun d s3 ⟨z, H3, I3, r3, k, e, q3⟩ => ?_)) hm
  subst e
  cases r3
  refine wpAny_truthy_bool ?_
  cases k with
  | false =>
    obtain ⟨k', e', q'⟩ := q3
    cases e'
    exact ite_ff ⟨H3, I3, q'⟩
  | true =>
    refine ite_tt (test_last (thn (hc pins s3 σ H3 _ I3 q3) fun w' s4 ⟨z', H4, I4, r4, q4⟩ => thn (ho' pins s4 σ H4 y z' u w' _ I4 r2 r4 q4) fun d' s5 ⟨z2, H5, I5, r5, k2, e2, q5⟩ => ?_))
    subst e2
    cases r5
    exact wpAny_truthy_bool ⟨H5, I5, q5⟩

/-- a value's truth by the abstract heap -/
def TruV (K : PySem.W.Frag) (x : V) (H : Hp) (k : Bool) : Prop :=
  match x with
  | .non => k = false
  | .bl b => k = b
  | .int i => k = (i != 0)
  | .str y => y.length ≤ sizeLine ∧ k = ((y.length : Int) != 0)
  | .byt y => y.size ≤ sizeLine ∧ k = ((y.size : Int) != 0)
  | .ref p => (∃ xs, SqL K H p xs ∧ k = !xs.isEmpty) ∨ (∃ xs, SqT K H p xs ∧ k = !xs.isEmpty) ∨ ∃ kvs, H p = some (.dK kvs) ∧ k = !kvs.isEmpty
  | _ => False
theorem isEmpty_kv {κ : Type} {kvs : List (κ × V)} {vs : List (κ × Value)} (r : KV kvs vs) : (!vs.isEmpty) = !kvs.isEmpty := by
  cases r <;> rfl
theorem isEmpty_of {xs : List V} {its : List Value} (r : Vals xs its) : (!its.toArray.isEmpty) = !xs.isEmpty := by
  cases r <;> simp
theorem line63 : (sizeLine : Nat) < 2 ^ 63 := by rw [sizeLine_eq]; decide
theorem tru_ok : TruR X (fun x H Q => ∃ k, TruV X.K x H k ∧ Q k H) := by
  intro pins s σ H x v Q I rx h
  obtain ⟨k, e, q⟩ := h
  have hl := line63
  have hs : sizeLine = 16777216 := sizeLine_eq
  cases x with
  | non =>
    cases rx
    have e' : k = false := e
    subst e'
    exact truthy_none ⟨H, I, q⟩
  | bl b =>
    cases rx
    have e' : k = b := e
    subst e'
    exact wpAny_truthy_bool ⟨H, I, q⟩
  | int i =>
    obtain ⟨t, rfl⟩ := rx
    have e' : k = (i != 0) := e
    subst e'
    exact PySem.P.truthy_int ⟨H, I, q⟩
  | str y =>
    obtain ⟨t, rfl⟩ := rx
    obtain ⟨hy, e'⟩ : y.length ≤ sizeLine ∧ k = ((y.length : Int) != 0) := e
    subst e'
    exact PySem.P.truthy_str (by omega) ⟨H, I.tok _, q⟩
  | byt y =>
    obtain ⟨t, rfl⟩ := rx
    obtain ⟨hy, e'⟩ : y.size ≤ sizeLine ∧ k = ((y.size : Int) != 0) := e
    subst e'
    exact PySem.W.truthy_bytes (by omega) ⟨H, I.tok _, q⟩
  | ref p =>
    cases rx
    have e' : (∃ xs, SqL X.K H p xs ∧ k = !xs.isEmpty) ∨ (∃ xs, SqT X.K H p xs ∧ k = !xs.isEmpty) ∨ ∃ kvs, H p = some (.dK kvs) ∧ k = !kvs.isEmpty := e
    rcases e' with ⟨xs, hx, e'⟩ | ⟨xs, hx, e'⟩ | ⟨kvs, hx, e'⟩
    · subst e'
      obtain ⟨its, r, pl, hz⟩ := I.list hx
      have hlen := r.length
      exact wpAny_truthy_list pl.isList (by simp only [List.size_toArray]; omega) ⟨H, I.tok _, by rw [isEmpty_of r]; exact q⟩
    · subst e'
      obtain ⟨its, r, pl, hz⟩ := I.tuple hx
      have hlen := r.length
      exact truthy_tuple pl (by simp only [List.size_toArray]; omega) ⟨H, I.tok _, by rw [isEmpty_of r]; exact q⟩
    · subst e'
      obtain ⟨hz, hS, vs, r, m⟩ : kvs.length ≤ sizeLine ∧ (p == sysModules) = false ∧ ∃ vs, KV kvs vs ∧ s.heap.DictOf (mixKind X.prog X.w) p vs := I.hok p _ hx
      have hlen : kvs.length = vs.length := Paired.length r
      exact wpAny_truthy_dict hS m (by omega) ⟨H, I.tok _, by rw [isEmpty_kv r]; exact q⟩
  | _ => exact (show False from e).elim
/-- any expression whose test is its value's truth (a name, a call, a subscript, a field ..: he by fun _ => rfl) -/
theorem pt_truth (ha : PE X a ta) (he : ∀ whole, isTrue a X.env whole = (do let v ← whole; standAt a.pos; holding [v] (truthy v))) :
    PT X a (fun σ H Q => ta σ H fun x H' => ∃ k, TruV X.K x H' k ∧ Q k H') := by
  intro pins s σ H Q I h
  exact isTrue_plain (thn (ha pins s σ H _ I h) fun v s1 ⟨x, H1, I1, r1, q1⟩ => tru_ok pins s1 σ H1 x v Q I1 r1 q1) (he _)

theorem vals1 {x : V} {us : List Value} (r : Vals [x] us) : ∃ u, us = [u] ∧ RelV x u := by
  cases r with
  | cons r1 r2 => cases r2; exact ⟨_, rfl, r1⟩
theorem vals2 {x y : V} {us : List Value} (r : Vals [x, y] us) : ∃ u w', us = [u, w'] ∧ RelV x u ∧ RelV y w' := by
  cases r with
  | cons r1 r2 =>
    cases r2 with
    | cons r3 r4 => cases r4; exact ⟨_, _, rfl, r1, r3⟩
end
end L2

namespace L2
open PySem PySem.Spec PyProof.Rows

structure ObjM (h : Heap) (x dx C : Addr) (mA : Str → Option Value) : Prop where
  obj : h.get? x = some (PySem.W.instObj C dx)
  ns : h.Ns1 dx mA
  ne : dx ≠ x

theorem lookIn_ns {h : Heap} {dx : Addr} {mA : Str → Option Value} (n : h.Ns1 dx mA) : ∃ od, h.get? dx = some od ∧ ∀ name, PySem.W.lookIn name od = some (mA name) := by
  obtain ⟨o, es, ep, ho, hd, hk, _, hm⟩ := n
  refine ⟨o, ho, fun name => ?_⟩
  have e := hm name
  unfold nsFind findBy at e
  rw [← Array.find?_toList] at e
  unfold PySem.W.lookIn
  rw [hd]
  dsimp only
  split
  · rename_i y q
    rw [q] at e
    exact congrArg some e
  · rename_i q
    rw [q] at e
    have a : es.toList.any (·.refKey) = false := by
      rw [List.any_eq_false]
      intro y hy
      obtain ⟨z, t, hkey⟩ := hk y (Array.mem_toList_iff.mp hy)
      simp [DictEntry.refKey, hkey]
    have a' : ¬ es.toList.any (·.refKey) = true := by rw [a]; exact Bool.false_ne_true
    rw [if_neg a']
    exact congrArg some e

theorem ObjM.look {h : Heap} {x dx C : Addr} {mA : Str → Option Value} (I : ObjM h x dx C mA) : ∃ od, PySem.W.InstAt h x (PySem.W.instObj C dx) C (some od) ∧ ∀ name, PySem.W.lookIn name od = some (mA name) :=
  let ⟨od, ho, hl⟩ := lookIn_ns I.ns
  ⟨od, ⟨I.obj, rfl, rfl, ho⟩, hl⟩

section
variable {prog : Program} {w : World} {A : Around} {E : Value → Shared → Prop} {s : Shared} {K : PySem.W.Frag} {x dx C f : Addr} {mA : Str → Option Value} {name : Str} {v : Value}

theorem get_map {expr : Bool} {Q : Value → Shared → Prop} (X : K.In s.heap) (I : ObjM s.heap x dx C mA) (hg : PySem.W.plainGet K C name = true) (hh : PySem.W.hasDictIn K C = true)
    (ha : PySem.W.findIn K (.ref C) name = some none) (hv : mA name = some v) (hv' : PySem.W.handedIn v = true) (h : Q v { s with toks := s.toks + 1 }) :
    wpAny (model prog w) A (getAttr (.ref x) name expr) Q E s := by
  obtain ⟨od, J, hl⟩ := I.look
  exact PySem.W.get_value X J (PySem.W.plainGet_of hg).1 (PySem.W.findObj_own hh ha rfl (by rw [hl, hv])) hv' h

theorem get_meth {pl : Sem Bool} {Q : Value × List Value → Shared → Prop} (X : K.In s.heap) (I : ObjM s.heap x dx C mA) (hg : PySem.W.plainGet K C name = true)
    (hf : PySem.W.findIn K (.ref C) name = some (some (.ref f))) (ht : PySem.W.isFn K (.ref f) = true) (hv : mA name = none) (h : Q (.ref f, [.ref x]) s) :
    wpAny (model prog w) A (getMethod (.ref x) name pl) Q E s := by
  obtain ⟨od, J, hl⟩ := I.look
  exact PySem.W.method_fn X J (PySem.W.plainGet_of hg).1 (PySem.W.plainGet_of hg).2 hf (beq_iff_eq.mp ht) (by show (PySem.W.lookIn name od).map (·.isSome) = some false; rw [hl, hv]; rfl) h

theorem set_map {ns : List Str} {Q : Unit → Shared → Prop} (X : K.In s.heap) (I : ObjM s.heap x dx C mA)
    (hs : PySem.W.findIn K (.ref C) "__setattr__" = some (some (.builtin "object.__setattr__"))) (hp : PySem.W.plainOver K C = true) (ht : PySem.W.takerIn K C name = some none) (hh : PySem.W.hasDictIn K C = true)
    (hw : PySem.Within mA ns) (hsz : ns.length ≤ sizeLine)
    (h : ∀ h', ObjM h' x dx C (fun y => if y = name then some v else mA y) → Heap.SameBut dx s.heap h' → Q () { s with heap := h', toks := s.toks + 2 }) :
    wpAny (model prog w) A (setAttr (.ref x) name v) Q E s := by
  obtain ⟨od, J, hl⟩ := I.look
  refine PySem.W.set_plain X J hs (PySem.W.osa_open (s := { s with toks := s.toks + 1 }) (r := none) X J hp ht fun b => ?_)
  obtain ⟨cd, hc, hd'⟩ := PySem.W.any_some hh
  have hx : s.heap.get? x = some ⟨.ref C, some dx, .plain, #[]⟩ := I.obj
  refine wpAny_bind (wpAny_pure (wpAny_bind (wpAny_bind (wpAny_loadPart hx (wpAny_bind (PySem.W.Looks.here (s := { s with toks := s.toks + 1 }) (PySem.W.looks_clsIn X hc) ?_))))))
  rw [hd']
  refine wpAny_pure (a := some dx) (wpAny_bind (wpAny_pure (wpAny_bind ?_)))
  refine wpAny_nsSet1 (s := { s with toks := s.toks + 1 }) I.ns fun h' hn2 hs2 => ?_
  obtain ⟨oD, esD, epD, hoD, hdD, hcD⟩ := hn2.count (PySem.Within.cons name v hw)
  refine wpAny_bind (wpAny_lookBehind hoD (by rw [hdD]; exact pastItsLine_dict (Nat.le_trans hcD (by rw [List.length_cons]; omega))) ?_)
  exact wpAny_pure (h _ ⟨(hs2.2 _ (Ne.symm I.ne)).trans I.obj, hn2, I.ne⟩ hs2)

/-- C(..): the dict at the heap's end, the instance behind it; then its __init__ -/
theorem make_map {R : Result → Shared → Prop} {vs : List Value} {kw : List (Str × Value)} (X : K.In s.heap) (hm : PySem.W.makesIn K C = true)
    (hi : PySem.W.findIn K (.ref C) "__init__" = some (some (.ref f))) (hf : PySem.W.typeIn K (.ref f) = some (.type "function"))
    (h : codeAny (model prog w) (A.under (.builtin "type.__call__" ⟨.ref C :: vs, kw⟩)) (.call (.ref f) ⟨.ref (s.heap.objs.size + 1) :: vs, kw⟩) (PySem.W.InitBack (s.heap.objs.size + 1) R)
      { s with heap := (s.heap.push PySem.W.emptyDict).push (PySem.W.instObj C s.heap.objs.size) }) :
    codeAny (model prog w) A (.call (.ref C) ⟨vs, kw⟩) R s := by
  obtain ⟨hh, g, d, t, os⟩ := s
  exact PySem.W.make_core (PySem.W.makes_of X hm) (PySem.W.looks_findIn X hi) (fun self => PySem.W.bind_fn X self hf) (.inl rfl) h
end

def putF (f : Str) (v : V) : List (Str × V) → List (Str × V)
  | [] => [(f, v)]
  | (g, x) :: r => if g = f then (g, v) :: r else (g, x) :: putF f v r
theorem lookup_putF (f g : Str) (v : V) : ∀ fs : List (Str × V), (putF f v fs).lookup g = if g = f then some v else fs.lookup g
  | [] => by
    show List.lookup g [(f, v)] = _
    by_cases h : g = f
    · have hb : (g == f) = true := beq_iff_eq.mpr h
      simp only [List.lookup, hb, if_pos h]
    · have hb : (g == f) = false := beq_eq_false_iff_ne.mpr h
      simp only [List.lookup, hb, if_neg h]
  | (k, x) :: r => by
    have ih := lookup_putF f g v r
    rw [show putF f v ((k, x) :: r) = (if k = f then (k, v) :: r else (k, x) :: putF f v r) from rfl]
    by_cases hk : k = f
    · rw [if_pos hk]
      by_cases h : g = k
      · have hb : (g == k) = true := beq_iff_eq.mpr h
        simp only [List.lookup, hb, if_pos (h.trans hk)]
      · have hb : (g == k) = false := beq_eq_false_iff_ne.mpr h
        simp only [List.lookup, hb, if_neg (fun e : g = f => h (e.trans hk.symm))]
    · rw [if_neg hk]
      by_cases h : g = k
      · have hb : (g == k) = true := beq_iff_eq.mpr h
        simp only [List.lookup, hb, if_neg (fun e : g = f => hk (h.symm.trans e))]
      · have hb : (g == k) = false := beq_eq_false_iff_ne.mpr h
        simp only [List.lookup, hb]
        exact ih
theorem keys_putF (f : Str) (v : V) : ∀ fs : List (Str × V), f ∈ (putF f v fs).map (·.1) ∧ ∀ g, g ∈ fs.map (·.1) → g ∈ (putF f v fs).map (·.1)
  | [] => ⟨by simp [putF], fun g h => by simp at h⟩
  | (k, x) :: r => by
    obtain ⟨i1, i2⟩ := keys_putF f v r
    rw [show putF f v ((k, x) :: r) = (if k = f then (k, v) :: r else (k, x) :: putF f v r) from rfl]
    by_cases hk : k = f
    · rw [if_pos hk]
      subst hk
      exact ⟨by simp, fun g h => by simpa using h⟩
    · rw [if_neg hk]
      refine ⟨?_, fun g h => ?_⟩
      · rw [List.map_cons]
        exact List.mem_cons_of_mem _ i1
      · rw [List.map_cons] at h ⊢
        rcases List.mem_cons.mp h with e | e
        · exact List.mem_cons.mpr (.inl e)
        · exact List.mem_cons_of_mem _ (i2 g e)
theorem length_putF (f : Str) (v : V) : ∀ fs : List (Str × V), (putF f v fs).length ≤ fs.length + 1
  | [] => by simp [putF]
  | (k, x) :: r => by
    have ih := length_putF f v r
    rw [show putF f v ((k, x) :: r) = (if k = f then (k, v) :: r else (k, x) :: putF f v r) from rfl]
    by_cases hk : k = f
    · rw [if_pos hk, List.length_cons, List.length_cons]; omega
    · rw [if_neg hk, List.length_cons, List.length_cons]; omega

theorem RelO.some_of {v : V} {o : Option Value} (r : RelO (some v) o) : ∃ u, o = some u ∧ RelV v u := by
  cases o with
  | none => exact (show False from r).elim
  | some u => exact ⟨u, rfl, r⟩
theorem RelO.none_of {o : Option Value} (r : RelO none o) : o = none := by
  cases o with
  | none => rfl
  | some u => exact (show False from r).elim
theorem handed_of {v : V} {u : Value} (r : RelV v u) : PySem.W.handedIn u = true := by
  cases v with
  | non => cases (show u = Value.none from r); rfl
  | bl b => cases (show u = Value.bool b from r); rfl
  | int i => obtain ⟨t, e⟩ := (show ∃ t, u = Value.int i t from r); cases e; rfl
  | str x => obtain ⟨t, e⟩ := (show ∃ t, u = Value.str x t from r); cases e; rfl
  | byt b => obtain ⟨t, e⟩ := (show ∃ t, u = Value.bytes b t from r); cases e; rfl
  | flt b => obtain ⟨t, e⟩ := (show ∃ t, u = Value.float b t from r); cases e; rfl
  | ref a => cases (show u = Value.ref a from r); rfl
  | ty n => cases (show u = Value.type n from r); rfl

section
variable {P : Program} {w : World} {H H' : Hp} {h h' : Heap} {a C dx : Addr} {fs fs' : List (Str × V)}
theorem ins_get (hok : HOk P w H h) (e : H a = some (.ins C dx fs)) : ∃ mA, ObjM h a dx C mA ∧ (∀ f, RelO (fs.lookup f) (mA f)) ∧ PySem.Within mA (fs.map (·.1)) ∧ fs.length ≤ 1000 ∧ H dx = some (.own a) := by
  obtain ⟨d, z, ne, ob, mA, n, r, q⟩ := (show ObjOk P w H h a (.ins C dx fs) from hok a _ e)
  exact ⟨mA, ⟨ob, n, ne⟩, r, q, z, d⟩
end

structure Cls (K : PySem.W.Frag) (C : Addr) : Prop where
  pg : PySem.W.plainGet K C Str.empty = true
  hd : PySem.W.hasDictIn K C = true
  po : PySem.W.plainOver K C = true
  sa : PySem.W.findIn K (.ref C) "__setattr__" = some (some (.builtin "object.__setattr__"))
theorem Cls.get {K : PySem.W.Frag} {C : Addr} (c : Cls K C) (f : Str) : PySem.W.plainGet K C f = true := c.pg
/-- no class of it has the name -/
def NoAttr (K : PySem.W.Frag) (C : Addr) (f : Str) : Prop := PySem.W.findIn K (.ref C) f = some none
theorem NoAttr.taker {K : PySem.W.Frag} {C : Addr} {f : Str} (n : NoAttr K C f) : PySem.W.takerIn K C f = some none := by
  unfold PySem.W.takerIn
  rw [show PySem.W.findIn K (.ref C) f = some none from n]
  rfl
/-- a method: a plain def of the class or of one above it -/
structure Meth (K : PySem.W.Frag) (C : Addr) (m : Str) (f : Addr) : Prop where
  at_ : PySem.W.findIn K (.ref C) m = some (some (.ref f))
  fn : PySem.W.isFn K (.ref f) = true
  kp : PySem.W.keepIn K (.ref f) = true

section
variable {X : Cx} {pins : List (Addr × Obj)} {σ : St} {H : Hp} {s : Shared} {a C dx : Addr} {fs : List (Str × V)} {f : Str} {v : V} {A : Around} {E : Value → Shared → Prop}

theorem getattr_ok {b : Bool} {Q : Value → Shared → Prop} (I : Inv X pins σ H s) (e : H a = some (.ins C dx fs)) (c : Cls X.K C) (n : NoAttr X.K C f) (l : fs.lookup f = some v)
    (h : ∀ u s', Inv X pins σ H s' → RelV v u → Q u s') : wpAny (model X.prog X.w) A (getAttr (.ref a) f b) Q E s := by
  obtain ⟨mA, O, r, _, _, _⟩ := ins_get I.hok e
  obtain ⟨u, hu, ru⟩ := RelO.some_of (v := v) (o := mA f) (by rw [← l]; exact r f)
  exact get_map I.kIn O (c.get f) c.hd n hu (handed_of ru) (h u _ (I.tok _) ru)

theorem getmeth_ok {m : Str} {g : Addr} {pl : Sem Bool} {Q : Value × List Value → Shared → Prop} (I : Inv X pins σ H s) (e : H a = some (.ins C dx fs)) (c : Cls X.K C) (k : Meth X.K C m g) (l : fs.lookup m = none)
    (h : Q (.ref g, [.ref a]) s) : wpAny (model X.prog X.w) A (getMethod (.ref a) m pl) Q E s := by
  obtain ⟨mA, O, r, _, _, _⟩ := ins_get I.hok e
  have hn : mA m = none := RelO.none_of (by rw [← l]; exact r m)
  exact get_meth I.kIn O (c.get m) k.at_ k.fn hn h

theorem setattr_ok {y : V} {u : Value} {Q : Unit → Shared → Prop} (I : Inv X pins σ H s) (e : H a = some (.ins C dx fs)) (c : Cls X.K C) (n : NoAttr X.K C f) (hl : fs.length < 1000) (ry : RelV y u)
    (h : ∀ s', Inv X pins σ (upd H a (.ins C dx (putF f y fs))) s' → Q () s') : wpAny (model X.prog X.w) A (setAttr (.ref a) f u) Q E s := by
  obtain ⟨mA, O, r, wi, _, ho⟩ := ins_get I.hok e
  have hz : (fs.map (·.1)).length ≤ sizeLine := by rw [List.length_map, sizeLine_eq]; omega
  refine set_map I.kIn O c.sa c.po n.taker c.hd wi hz fun h' O' sb => h _ ?_
  have hd : ∃ o, h'.get? dx = some o := let ⟨o, _, _, e', _⟩ := O'.ns; ⟨o, e'⟩
  refine I.write (x := a) (e := dx) (by rw [e]; exact True.intro) (.inr ho) (fun b q hb z => (sb.2 b hb).trans z) hd ?_
  refine ⟨by rw [upd_ne O.ne]; exact ho, ?_, O.ne, O'.obj, _, O'.ns, fun g => ?_, fun g hg => ?_⟩
  · have := length_putF f y fs; omega
  · show RelO ((putF f y fs).lookup g) (if g = f then some u else mA g)
    rw [lookup_putF]
    by_cases q : g = f
    · rw [if_pos q, if_pos q]; exact ry
    · rw [if_neg q, if_neg q]; exact r g
  · by_cases q : g = f
    · rw [q]; exact (keys_putF f y fs).1
    · refine (keys_putF f y fs).2 g (wi g fun z => hg ?_)
      show (if g = f then some u else mA g) = none
      rw [if_neg q]; exact z

/-- a new instance, tracked, without attributes -/
theorem Inv.made (I : Inv X pins σ H s) : Inv X pins σ (upd (upd H s.heap.objs.size (.own (s.heap.objs.size + 1))) (s.heap.objs.size + 1) (.ins C s.heap.objs.size []))
    { s with heap := (s.heap.push PySem.W.emptyDict).push (PySem.W.instObj C s.heap.objs.size) } := by
  have e1 : (s.heap.push PySem.W.emptyDict).get? s.heap.objs.size = some PySem.W.emptyDict := Heap.get?_push_size s.heap rfl
  have e2 : ((s.heap.push PySem.W.emptyDict).push (PySem.W.instObj C s.heap.objs.size)).get? (s.heap.objs.size + 1) = some (PySem.W.instObj C s.heap.objs.size) := by
    have := Heap.get?_push_size (s.heap.push PySem.W.emptyDict) (o := PySem.W.instObj C s.heap.objs.size) rfl
    rwa [Heap.size_push] at this
  have e3 : (s.heap.push PySem.W.emptyDict).Ns s.heap.objs.size (fun _ => none) := ⟨PySem.W.emptyDict, #[], _, e1, rfl, (fun e he => absurd he (by simp)), fun _ => rfl⟩
  have I1 := I.laid (a := s.heap.objs.size) (o := .own (s.heap.objs.size + 1)) (h' := s.heap.push PySem.W.emptyDict) (t' := s.toks) (fun b u q => Heap.get?_push_of_some _ q) (Nat.le_refl _) ⟨_, e1⟩
  refine I1.laid (a := s.heap.objs.size + 1) (o := .ins C s.heap.objs.size []) (t' := s.toks) (fun b u q => Heap.get?_push_of_some _ q) (Nat.le_of_eq (Heap.size_push _ _)) ?_
  have ne : s.heap.objs.size ≠ s.heap.objs.size + 1 := Nat.ne_of_lt (Nat.lt_succ_self _)
  refine ⟨by rw [upd_ne ne, upd_same], Nat.zero_le _, ne, e2, fun _ => none, (Heap.Ns1.of_empty e3).at fun o q => Heap.get?_push_of_some _ q, fun _ => True.intro, fun y hy => absurd rfl hy⟩

/-- e.f where nothing but the object is asked: through attributeBase (super) and the last hold -/
theorem attr_of {prog : Program} {w : World} {env : Env} {e : Expr} {f : Str} {pos : Pos} {s : Shared} {Q : Value → Shared → Prop} (hb : attributeBase e f env (eval e env) = eval e env)
    (h : wpAny (model prog w) A (eval e env) (fun o s₁ => wpAny (model prog w) A (getAttr o f true) Q E s₁) E s) : wpAny (model prog w) A (eval (.Attribute e f pos) env) Q E s :=
  Attribute_any_ h (by rw [arm_eval_Attribute, hb])
end

/-- e.f, an attribute of the instance -/
def tFld (K : PySem.W.Frag) (ta : TE) (f : Str) : TE := fun σ H Q => ta σ H fun x H1 => ∃ a C dx fs v, x = .ref a ∧ H1 a = some (.ins C dx fs) ∧ Cls K C ∧ NoAttr K C f ∧ fs.lookup f = some v ∧ Q v H1
/-- e.f = value -/
def sFld (K : PySem.W.Frag) (ta tv : TE) (f : Str) : TS := fun D σ H => tv σ H fun y H1 => ta σ H1 fun x H2 => ∃ a C dx fs, x = .ref a ∧ H2 a = some (.ins C dx fs) ∧ Cls K C ∧ NoAttr K C f ∧ fs.length < 1000 ∧
  D.nx σ (upd H2 a (.ins C dx (putF f y fs)))
/-- an augmented operator on two values -/
def InOp (X : Cx) (op : Operator) (rd : V → V → Hp → VK → Prop) : Prop :=
  ∀ (pins : List (Addr × Obj)) (s : Shared) (σ : St) (H : Hp) (x y : V) (u v : Value) (Q : VK), Inv X pins σ H s → RelV x u → RelV y v → rd x y H Q → wpAny (model X.prog X.w) X.A (inplaceOp op u v) (EP X pins σ Q) X.xe s
/-- e.f op= value -/
def sFldAug (K : PySem.W.Frag) (ta tv : TE) (rd : V → V → Hp → VK → Prop) (f : Str) : TS := fun D σ H => ta σ H fun x H1 => ∃ a C dx fs v, x = .ref a ∧ H1 a = some (.ins C dx fs) ∧ Cls K C ∧ NoAttr K C f ∧ fs.lookup f = some v ∧
  tv σ H1 fun y H2 => rd v y H2 fun z H3 => ∃ dx' fs', H3 a = some (.ins C dx' fs') ∧ fs'.length < 1000 ∧ D.nx σ (upd H3 a (.ins C dx' (putF f z fs')))

section
variable {X : Cx} {o e value : Expr} {f : Str} {pos pos' tpos : Pos} {ta tv : TE}
theorem pe_fld (he : PE X e ta) (hb : attributeBase e f X.env (eval e X.env) = eval e X.env) : PE X (.Attribute e f pos) (tFld X.K ta f) := by
  intro pins s σ H Q I h
  refine attr_of hb (thn (he pins s σ H _ I h) fun u s1 ⟨x, H1, I1, rx, a, C, dx, fs, v, ex, ea, c, n, l, q⟩ => ?_)
  subst ex
  obtain rfl : u = Value.ref a := rx
  exact getattr_ok I1 ea c n l fun u' s2 I2 ru => ⟨v, H1, I2, ru, q⟩
theorem ps_fld (ha : PE X o ta) (hv : PE X value tv) (hs : swapsWith value (some (.Attribute o f pos')) pos.line X.env = pure false) : PS X (.Assign [.Attribute o f pos'] value pos) (sFld X.K ta tv f) := by
  intro pins s σ H D I h
  refine plainObj_wpAny_Assign_Attribute (thn (hv pins s σ H _ I h) fun u s1 ⟨y, H1, I1, ry, q⟩ => thn (ha pins s1 σ H1 _ I1 q) fun ov s2 ⟨x, H2, I2, rx, a, C, dx, fs, ex, ea, c, n, l, q2⟩ => ?_) hs
  subst ex
  obtain rfl : ov = Value.ref a := rx
  exact setattr_ok I2 ea c n l ry fun s3 I3 => ⟨σ, _, I3, q2⟩
theorem ps_fldaug {op : Operator} {rd : V → V → Hp → VK → Prop} (ha : PE X o ta) (hv : PE X value tv) (hop : InOp X op rd) : PS X (.AugAssign (.Attribute o f tpos) op value pos) (sFldAug X.K ta tv rd f) := by
  intro pins s σ H D I h
  refine wpAny_AugAssign_AttributeAny (thn (ha pins s σ H _ I h) fun ov s1 ⟨x, H1, I1, rx, a, C, dx, fs, v, ex, ea, c, n, l, q⟩ => ?_)
  subst ex
  obtain rfl : ov = Value.ref a := rx
  refine getattr_ok I1 ea c n l fun u s2 I2 ru => thn (hv pins s2 σ H1 _ I2 q) fun w3 s3 ⟨y, H2, I3, ry, q3⟩ => thn (hop pins s3 σ H2 v y u w3 _ I3 ru ry q3) fun w4 s4 ⟨z, H3, I4, rz, dx', fs', ea', l', q4⟩ => ?_
  exact setattr_ok I4 ea' c n l' rz fun s5 I5 => ⟨σ, _, I5, q4⟩
def rAdd : V → V → Hp → VK → Prop := fun x y H Q => ∃ i j, x = .int i ∧ y = .int j ∧ Q (.int (i + j)) H
theorem in_add : InOp X .Add rAdd := by
  rintro pins s σ H x y u v Q I rx ry ⟨i, j, rfl, rfl, q⟩
  obtain ⟨t, rfl⟩ := (show ∃ t, u = Value.int i t from rx)
  obtain ⟨t', rfl⟩ := (show ∃ t', v = Value.int j t' from ry)
  exact PyProof.Rows.iadd_int ⟨.int (i + j), H, I.tok _, ⟨_, rfl⟩, q⟩
end

section
variable {X : Cx} {pins : List (Addr × Obj)} {σ : St} {H : Hp} {s : Shared} {A : Around} {E : Value → Shared → Prop} {Q : Value → Shared → Prop} {c : Value} {b : Bool}
/-- the type of a value, as the fragment's deciders take it; for an instance its class -/
inductive TyOf (K : PySem.W.Frag) (H : Hp) : V → Value → Prop where
  | non : TyOf K H .non (.type "NoneType")
  | bl (x : Bool) : TyOf K H (.bl x) (.type "bool")
  | int (i : Int) : TyOf K H (.int i) (.type "int")
  | str (x : Str) : TyOf K H (.str x) (.type "str")
  | flt (x : UInt64) : TyOf K H (.flt x) (.type "float")
  | lst {a : Addr} {xs : List V} (e : H a = some (.lst xs)) : TyOf K H (.ref a) (.type "list")
  | frz {a : Addr} {o : Obj} {xs : List V} (e : H a = some (.frz o (.lst xs))) : TyOf K H (.ref a) (.type "list")
  | tup {a : Addr} {xs : List V} (e : H a = some (.tup xs)) : TyOf K H (.ref a) (.type "tuple")
  | dK {a : Addr} {kvs : List (Key × V)} (e : H a = some (.dK kvs)) : TyOf K H (.ref a) (.type "dict")
  | dT {a : Addr} {kvs : List (List Key × V)} (e : H a = some (.dT kvs)) : TyOf K H (.ref a) (.type "dict")
  | ins {a C dx : Addr} {fs : List (Str × V)} (e : H a = some (.ins C dx fs)) (cl : Cls K C) (ha : PySem.W.findIn K (.ref C) "__class__" = some (some (.builtin "object.__class__")))
      (hn : PySem.W.specialIn K (.builtin "object.__class__") "__get__" = some (some (.builtin "getset_descriptor.__get__"))) (htk : PySem.W.takesIn K (.builtin "object.__class__") = some true)
      (hm : PySem.W.mroIn K C (.type "object") = some true) : TyOf K H (.ref a) (.ref C)
/-- isinstance(x, c) for one class c, a built-in or an own one: kitOne's answer -/
theorem isinst_ok {x : V} {u t : Value} (I : Inv X pins σ H s) (rx : RelV x u) (ty : TyOf X.K H x t) (e : PySem.W.kitOne X.K t c = some b) (h : ∀ tk, Q (.bool b) { s with toks := tk }) :
    wpAny (model X.prog X.w) A (call (.builtin "isinstance") [u, c]) Q E s := by
  cases ty with
  | non => cases (show u = Value.none from rx); exact PySem.W.kia_one PySem.W.kitx_none I.kIn True.intro e (fun z => nomatch z) h
  | bl y => cases (show u = Value.bool y from rx); exact PySem.W.kia_one PySem.W.kitx_bool I.kIn True.intro e (fun z => nomatch z) h
  | int i => obtain ⟨t, q⟩ := (show ∃ t, u = Value.int i t from rx); cases q; exact PySem.W.kia_one PySem.W.kitx_int I.kIn True.intro e (fun z => nomatch z) h
  | str y => obtain ⟨t, q⟩ := (show ∃ t, u = Value.str y t from rx); cases q; exact PySem.W.kia_one PySem.W.kitx_str I.kIn True.intro e (fun z => nomatch z) h
  | flt y => obtain ⟨t, q⟩ := (show ∃ t, u = Value.float y t from rx); cases q; exact PySem.W.kia_one PySem.W.kitx_float I.kIn True.intro e (fun z => nomatch z) h
  | @lst a xs ea =>
    cases (show u = Value.ref a from rx)
    obtain ⟨_, _, n, _, h1⟩ := (show ObjOk X.prog X.w H s.heap a (.lst xs) from I.hok a _ ea)
    exact PySem.W.kia_one PySem.W.kitx_list I.kIn ⟨_, h1, rfl⟩ e (fun z => nomatch z) h
  | @frz a ob xs ea =>
    cases (show u = Value.ref a from rx)
    obtain ⟨_, _, _, n, _, h1⟩ := (show ObjOk X.prog X.w H s.heap a (.frz ob (.lst xs)) from I.hok a _ ea)
    exact PySem.W.kia_one PySem.W.kitx_list I.kIn ⟨_, h1, rfl⟩ e (fun z => nomatch z) h
  | @tup a xs ea =>
    cases (show u = Value.ref a from rx)
    obtain ⟨_, _, _, p⟩ := (show ObjOk X.prog X.w H s.heap a (.tup xs) from I.hok a _ ea)
    obtain ⟨o, h1, h2, _⟩ := p
    exact PySem.W.kia_one PySem.W.kitx_tuple I.kIn ⟨o, h1, h2⟩ e (fun z => nomatch z) h
  | @dK a kvs ea =>
    cases (show u = Value.ref a from rx)
    obtain ⟨_, _, vs, _, p⟩ := (show ObjOk X.prog X.w H s.heap a (.dK kvs) from I.hok a _ ea)
    obtain ⟨o, es, ep, h1, h2, _⟩ := p
    exact PySem.W.kia_one PySem.W.kitx_dict I.kIn ⟨o, h1, h2.1⟩ e (fun z => nomatch z) h
  | @dT a kvs ea =>
    cases (show u = Value.ref a from rx)
    obtain ⟨_, _, xs, _, o, es, ep, h1, h2, _⟩ := (show ObjOk X.prog X.w H s.heap a (.dT kvs) from I.hok a _ ea)
    exact PySem.W.kia_one PySem.W.kitx_dict I.kIn ⟨o, h1, h2.1⟩ e (fun z => nomatch z) h
  | @ins a C dx fs ea cl ha hn htk hm =>
    cases (show u = Value.ref a from rx)
    obtain ⟨mA, O, _⟩ := ins_get I.hok ea
    obtain ⟨od, J, _⟩ := O.look
    exact PySem.W.kia_one (PySem.W.kitx_own (cl.get _) cl.hd ha hn htk hm) I.kIn J e (fun z => nomatch z) h
end
end L2

namespace L2
open PySem PySem.Spec PyProof.Rows

structure Room (k : Nat) (A : Around) : Prop where
  hd : A.handled = none
  dp : A.depth + 3 * k + 5 < recursionLimit
  un : A.units + 16 * k + 200 < cLine
theorem Room.mono {j k : Nat} {A : Around} (r : Room k A) (h : j ≤ k) : Room j A := ⟨r.hd, by have := r.dp; omega, by have := r.un; omega⟩
theorem Room.deeper {k : Nat} {A : Around} (r : Room (k + 1) A) (env : Env) : Room k (A.deeper env) :=
  ⟨r.hd, by have := r.dp; show A.depth + 1 + 3 * k + 5 < _; omega, by have := r.un; show A.units + 3 + 16 * k + 200 < _; omega⟩
theorem make_depth {A : Around} {C : Addr} {us : List Value} {kw : List (Str × Value)} : (A.under (.builtin "type.__call__" ⟨.ref C :: us, kw⟩)).depth = A.depth + 1 := by
  first | rfl | simp [Around.under, Code.weight, Code.isCreation, Code.isGuard, Code.isCaller, Code.frames, Code.isFrame, guardIds]
theorem make_units {A : Around} {C : Addr} {us : List Value} {kw : List (Str × Value)} : (A.under (.builtin "type.__call__" ⟨.ref C :: us, kw⟩)).units = A.units + 1 := by
  first | rfl | simp [Around.under, Code.cUnits, Code.frames, Code.isFrame]
theorem Room.make {k : Nat} {A : Around} (r : Room (k + 1) A) (C : Addr) (us : List Value) (kw : List (Str × Value)) : Room k (A.under (.builtin "type.__call__" ⟨.ref C :: us, kw⟩)) :=
  ⟨r.hd, by have := r.dp; rw [make_depth]; omega, by have := r.un; rw [make_units]; omega⟩
theorem Room.depth {k : Nat} {A : Around} (r : Room k A) : A.depth < recursionLimit := by have := r.dp; omega
theorem Room.units {k : Nat} {A : Around} (r : Room k A) : A.units + 64 < cLine := by have := r.un; omega
def tNil : TA := fun _ H Q => Q [] H
def tCons (ta : TE) (tr : TA) : TA := fun σ H Q => ta σ H fun x H1 => tr σ H1 fun xs H2 => Q (x :: xs) H2
section
variable {X : Cx} {e : Expr} {es : List Expr} {te : TE} {t : TA} {pos : Pos}
theorem pa_nil : PA X [] tNil := fun _ _ _ _ H Q I h => Calls.spliced_nil ⟨[], H, I, .nil, h⟩
theorem pa_cons (ha : PE X e te) (hr : PA X es t) (hs : starEach (e :: es) X.env = (false, eval e X.env) :: starEach es X.env := by rfl) : PA X (e :: es) (tCons te t) := by
  intro pos pins s σ H Q I h
  rw [hs]
  show wpAny _ _ (spliced ((false, eval e X.env) :: backTo pos (starEach es X.env))) _ _ s
  refine Calls.spliced_cons (thn (ha pins s σ H _ I h) fun u s1 ⟨x, H1, I1, r1, q1⟩ => ?_)
  exact thn (hr pos pins s1 σ H1 _ I1 q1) fun us s2 ⟨xs, H2, I2, r2, q2⟩ => ⟨x :: xs, H2, I2, .cons r1 r2, q2⟩

/-- a tuple, a list of written items -/
def tTup (t : TA) : TE := fun σ H Q => t σ H fun xs H1 => xs.length ≤ sizeLine ∧ ∀ p, H1 p = none → Q (.ref p) (upd H1 p (.tup xs))
def tLst (t : TA) : TE := fun σ H Q => t σ H fun xs H1 => xs.length ≤ sizeLine ∧ ∀ p, H1 p = none → Q (.ref p) (upd H1 p (.lst xs))
theorem pe_tup {x1} (h : PA X es t) : PE X (.Tuple es x1 pos) (tTup t) := by
  intro pins s σ H Q I hq
  refine wpAny_Tuple_spliced (thn (h pos pins s σ H _ I hq) fun us s1 ⟨xs, H1, I1, r, z, q⟩ => ⟨by rw [← r.length]; exact z, ?_⟩)
  have hf : H1 s1.heap.objs.size = none := I1.hok.fresh (Nat.le_refl _)
  refine ⟨.ref s1.heap.objs.size, upd H1 s1.heap.objs.size (.tup xs), I1.laid (t' := s1.toks) (fun b u e => Heap.get?_push_of_some _ e) (Nat.le_refl _) ?_, rfl, q _ hf⟩
  exact ⟨z, us, r, ⟨_, Heap.get?_push_size _ rfl, rfl, _, rfl⟩⟩
theorem pe_lst (h : PA X es t) : PE X (.List es pos) (tLst t) := by
  intro pins s σ H Q I hq
  refine wpAny_List_spliced (thn (h pos pins s σ H _ I hq) fun us s1 ⟨xs, H1, I1, r, z, q⟩ => ⟨by rw [← r.length]; exact z, ?_⟩)
  have hf : H1 s1.heap.objs.size = none := I1.hok.fresh (Nat.le_refl _)
  refine ⟨.ref s1.heap.objs.size, upd H1 s1.heap.objs.size (.lst xs), I1.laid (t' := s1.toks) (fun b u e => Heap.get?_push_of_some _ e) (Nat.le_refl _) ?_, rfl, q _ hf⟩
  exact ⟨z, us, 0, r, Heap.get?_push_size _ rfl⟩
end

/-- a def's promise: the bound arguments in the parameters' order, the heap, the wanted end, the wanted exception -/
abbrev Sp := List V → Hp → VK → XK → Prop
/-- how an exception lies behind a call (file 08 gives it): the callers' frames, abstract heap and state ahead of the call, the wish, the exception, the state -/
abbrev CXT := List Env → Hp → Shared → XK → Value → Shared → Prop

/-- the state at a call -/
structure Env0 (P : Program) (w : World) (K : PySem.W.Frag) (mg : Str → Option Value) (base : Heap) (A : Around) (outer : List Env) (s : Shared) (H : Hp) : Prop where
  frames : A.frames = some outer
  mod : Mod K mg base
  bs : ∀ b o, base.get? b = some o → s.heap.get? b = some o ∧ H b = none
  bsz : base.objs.size ≤ s.heap.objs.size
  funs : s.heap.FunFrames base outer
  frf : ∀ b ∈ frs outer, H b = none
  hok : HOk P w H s.heap
  bare : AllBare s.gens
/-- a call's end -/
def CE (outer : List Env) (P : Program) (w : World) (H : Hp) (s : Shared) (Q : VK) (u : Value) (s' : Shared) : Prop :=
  ∃ v H', s'.os = s.os ∧ AllBare s'.gens ∧ Un (frs outer) [] H H' s.heap s'.heap ∧ HOk P w H' s'.heap ∧ RelV v u ∧ Q v H'
def CR (CX : CXT) (outer : List Env) (P : Program) (w : World) (H : Hp) (s : Shared) (Q : VK) (E : XK) (r : Result) (s' : Shared) : Prop :=
  match r with
  | .ok (.ret u) => CE outer P w H s Q u s'
  | .ok _ => False
  | .error e => CX outer H s E e s'
structure FnOk (P : Program) (w : World) (K : PySem.W.Frag) (mg : Str → Option Value) (base : Heap) (CX : CXT) (k : Nat) (f : Addr) (fd : FuncData) (ps : List Str) (sp : Sp) : Prop where
  len : ∀ vs H Q E, sp vs H Q E → vs.length = ps.length
  run : ∀ (A : Around) (outer : List Env) (s : Shared) (H : Hp) (args : Args) (us : List Value) (vs : List V) (Q : VK) (E : XK), Room k A → Env0 P w K mg base A outer s H → BindsTo s fd args (ps.zip us) → Vals vs us → sp vs H Q E →
    codeAny (model P w) A (.call (.ref f) args) (CR CX outer P w H s Q E) s
theorem Env0.make {P : Program} {w : World} {K : PySem.W.Frag} {mg : Str → Option Value} {base : Heap} {A : Around} {outer : List Env} {s : Shared} {H : Hp} (e : Env0 P w K mg base A outer s H) (C : Addr) (us : List Value) (kw : List (Str × Value)) :
    Env0 P w K mg base (A.under (.builtin "type.__call__" ⟨.ref C :: us, kw⟩)) outer s H := ⟨by first | exact e.frames | (simpa [Around.under, Code.envs, Code.isFrame, pushEnvs] using e.frames), e.mod, e.bs, e.bsz, e.funs, e.frf, e.hok, e.bare⟩
section
variable {X : Cx} {pins : List (Addr × Obj)} {σ : St} {H : Hp} {s s' : Shared}
/-- from a body: what a callee wants -/
theorem Inv.env0 (I : Inv X pins σ H s) : Env0 X.prog X.w X.K X.mg X.base X.A X.stack s H :=
  ⟨I.ok.frames, I.ok.mod, I.bs, Nat.le_trans I.ok.bsz I.sz, I.stack, I.stkFree, I.hok, I.bare⟩
/-- behind a call -/
theorem Inv.after {Q : VK} {u : Value} (I : Inv X pins σ H s) (h : CE X.stack X.prog X.w H s Q u s') : EP X pins σ Q u s' := by
  obtain ⟨v, H', os, bare, un, hok, r, q⟩ := h
  obtain ⟨hh, g, d, t, os'⟩ := s'
  obtain rfl : os' = s.os := os
  exact ⟨v, H', I.call (h' := hh) (g' := g) (d' := d) (t' := t) (ch := []) un hok bare (fun b z => absurd z (by simp)), r, q⟩
end

/-- f(..): the written arguments, then the defaults dvs; E: what is wanted of an exception -/
def tCall (sp : Sp) (dvs : List V) (E : XK) (t : TA) : TE := fun σ H Q => t σ H fun vs H1 => sp (vs ++ dvs) H1 Q E
/-- o.m(..) of an instance of the class at C -/
def tMeth (C : Addr) (m : Str) (sp : Sp) (dvs : List V) (E : XK) (ta : TE) (t : TA) : TE := fun σ H Q => ta σ H fun x H1 => ∃ a dx fs, x = .ref a ∧ H1 a = some (.ins C dx fs) ∧ fs.lookup m = none ∧
  t σ H1 fun vs H2 => sp (x :: (vs ++ dvs)) H2 Q E
/-- C(..): a new instance and its dict, then __init__ -/
def tMake (C : Addr) (sp : Sp) (dvs : List V) (E : XK) (t : TA) : TE := fun σ H Q => t σ H fun vs H1 => ∀ x dx, H1 x = none → H1 dx = none → dx ≠ x →
  sp (.ref x :: (vs ++ dvs)) (upd (upd H1 dx (.own x)) x (.ins C dx [])) (fun v H2 => v = .non ∧ Q (.ref x) H2) E

/-- how the parameters are bound: us the positional arguments, kw the keywords' values by name, ds the defaults that fill up -/
def Binds (K : PySem.W.Frag) (fd : FuncData) (ps : List Str) (ds : List Value) : Prop :=
  ∀ (s : Shared) (us : List Value), K.In s.heap → (us ++ ds).length = ps.length → BindsTo s fd ⟨us, []⟩ (ps.zip (us ++ ds))
/-- every parameter is given -/
theorem Binds.all {K : PySem.W.Frag} {fd : FuncData} {ps : List Str} (h : ∀ us : List Value, us.length = ps.length → bindArgs fd ⟨us, []⟩ = pure (ps.zip us)) : Binds K fd ps [] := fun s us _ hl => by
  rw [List.append_nil] at hl ⊢
  exact .of_eq (h us hl)

/-- an exception of a callee reaches what this body wants of exceptions -/
def Passes (CX : CXT) (X : Cx) (E : XK) : Prop := ∀ (pins : List (Addr × Obj)) (σ : St) (H : Hp) (s : Shared) (e : Value) (s' : Shared), Inv X pins σ H s → CX X.stack H s E e s' → X.xe e s'

section
variable {X : Cx} {CX : CXT} {k : Nat} {f C : Addr} {fd : FuncData} {ps : List Str} {sp : Sp} {dvs : List V} {ds : List Value} {E : XK} {x m : Str} {p pos apos : Pos} {e o : Expr} {es : List Expr} {ta : TE} {t : TA}

/-- the callee runs -/
theorem run_fn {pins : List (Addr × Obj)} {σ : St} {H : Hp} {s : Shared} {Q : VK} {us : List Value} {vs : List V} (F : FnOk X.prog X.w X.K X.mg X.base CX k f fd ps sp) (hr : Room k X.A) (hb : Binds X.K fd ps ds) (hd : Vals dvs ds) (hx : Passes CX X E)
    (I : Inv X pins σ H s) (r : Vals vs us) (h : sp (vs ++ dvs) H Q E) : wpAny (model X.prog X.w) X.A (call (.ref f) us) (EP X pins σ Q) X.xe s := by
  have r2 : Vals (vs ++ dvs) (us ++ ds) := r.append hd
  have hl : (us ++ ds).length = ps.length := by rw [← r2.length]; exact F.len _ _ _ _ h
  refine wpAny_call (codeAny_mono (F.run X.A X.stack s H ⟨us, []⟩ (us ++ ds) (vs ++ dvs) Q E hr I.env0 (hb s us I.kIn hl) r2 h) fun r s' hq => ?_)
  cases r with
  | error e => exact hx pins σ H s e s' I hq
  | ok fl =>
    cases fl with
    | ret u => exact I.after hq
    | next => exact False.elim hq
    | brk => exact False.elim hq
    | cont => exact False.elim hq

theorem pe_call (F : FnOk X.prog X.w X.K X.mg X.base CX k f fd ps sp) (hr : Room k X.A) (hg : Gl X x) (hm : X.mg x = some (.ref f)) (hk : PySem.W.keepIn X.K (.ref f) = true) (hb : Binds X.K fd ps ds) (hd : Vals dvs ds) (hx : Passes CX X E)
    (ha : PA X (e :: es) t) (hdb : (x == ("__debug__" : Str)) = false := by decide) (he : starEach (e :: es) X.env = (false, eval e X.env) :: starEach es X.env := by rfl) (hpl : (backTo pos (starEach es X.env)).any (·.1) = false := by rfl) :
    PE X (.Call (.Name x p) (e :: es) [] pos) (tCall sp dvs E t) := by
  intro pins s σ H Q I h
  refine wpAny_Call_Name_kw (ld_glob I hg hm ?_ hdb)
  refine PySem.W.callWith_K (h₀ := X.base) I.ok.mod.kin hk (thn (ha pos pins s σ H _ I h) fun us s1 ⟨vs, H1, I1, r, q⟩ => ⟨I1.kIn, ?_⟩) he hpl
  exact run_fn F hr hb hd hx I1 r q
/-- o.m(e, ..) -/
theorem pe_meth {pl : Sem Bool} (he : PE X o ta) (c : Cls X.K C) (hm : Meth X.K C m f) (F : FnOk X.prog X.w X.K X.mg X.base CX k f fd ps sp) (hr : Room k X.A) (hb : Binds X.K fd ps ds) (hd : Vals dvs ds) (hx : Passes CX X E) (ha : PA X (e :: es) t)
    (hst : starEach (e :: es) X.env = (false, eval e X.env) :: starEach es X.env := by rfl) (hpl : (backTo pos (starEach es X.env)).any (·.1) = false := by rfl)
    (ht : eval (.Call (.Attribute o m apos) (e :: es) [] pos) X.env = (do
      let ov ← eval o X.env
      standAt apos.atName
      let (f, first) ← holding [ov] (getMethod ov m pl)
      callWith pos f first (backTo pos (starEach (e :: es) X.env)) (backToKw pos (keywordEach [] X.env))) := by rfl) :
    PE X (.Call (.Attribute o m apos) (e :: es) [] pos) (tMeth C m sp dvs E ta t) := by
  intro pins s σ H Q I h
  refine PySem.W.methodCall_KW (pl := pl) (thn (he pins s σ H _ I h) fun u s1 ⟨x, H1, I1, rx, a, dx, fs, ex, ea, l, q⟩ => ?_) ht
  subst ex
  obtain rfl : u = Value.ref a := rx
  refine getmeth_ok I1 ea c hm l ?_
  refine PySem.W.callWith_K (first := [.ref a]) (h₀ := X.base) I.ok.mod.kin hm.kp (thn (ha pos pins s1 σ H1 _ I1 q) fun us s2 ⟨vs, H2, I2, r, q2⟩ => ⟨I2.kIn, ?_⟩) hst hpl
  exact run_fn (us := .ref a :: us) (vs := .ref a :: vs) F hr hb hd hx I2 (.cons rfl r) q2
/-- what a class must have to be made -/
structure Mk (K : PySem.W.Frag) (C f : Addr) : Prop where
  makes : PySem.W.makesIn K C = true
  init : PySem.W.findIn K (.ref C) "__init__" = some (some (.ref f))
  fn : PySem.W.isFn K (.ref f) = true
  kp : PySem.W.keepIn K (.ref C) = true

theorem run_make {pins : List (Addr × Obj)} {σ : St} {H : Hp} {s : Shared} {Q : VK} {us : List Value} {vs : List V} (M : Mk X.K C f) (F : FnOk X.prog X.w X.K X.mg X.base CX k f fd ps sp) (hr : Room (k + 1) X.A) (hb : Binds X.K fd ps ds) (hd : Vals dvs ds)
    (hx : Passes CX X E) (I : Inv X pins σ H s) (r : Vals vs us)
    (h : ∀ x dx, H x = none → H dx = none → dx ≠ x → sp (.ref x :: (vs ++ dvs)) (upd (upd H dx (.own x)) x (.ins C dx [])) (fun v H2 => v = .non ∧ Q (.ref x) H2) E) :
    wpAny (model X.prog X.w) X.A (call (.ref C) us) (EP X pins σ Q) X.xe s := by
  have hq := h (s.heap.objs.size + 1) s.heap.objs.size (I.hok.fresh (Nat.le_succ _)) (I.hok.fresh (Nat.le_refl _)) (Nat.ne_of_lt (Nat.lt_succ_self _))
  have I2 := Inv.made (C := C) I
  have r2 : Vals (V.ref (s.heap.objs.size + 1) :: (vs ++ dvs)) (Value.ref (s.heap.objs.size + 1) :: (us ++ ds)) := .cons rfl (r.append hd)
  have hl : (Value.ref (s.heap.objs.size + 1) :: us ++ ds).length = ps.length := by
    have e := r2.length
    rw [F.len _ _ _ _ hq] at e
    exact e.symm
  refine wpAny_call (make_map (f := f) I.kIn M.makes M.init (beq_iff_eq.mp M.fn) (codeAny_mono (F.run _ X.stack _ _ ⟨Value.ref (s.heap.objs.size + 1) :: us, []⟩ (Value.ref (s.heap.objs.size + 1) :: (us ++ ds)) _ _ E (hr.make C us [])
    (I2.env0.make C us []) (hb _ (Value.ref (s.heap.objs.size + 1) :: us) I2.kIn hl) r2 hq) fun r s' hq' => ?_))
  cases r with
  | error e => exact hx pins σ _ _ e s' I2 hq'
  | ok fl =>
    cases fl with
    | ret u =>
      obtain ⟨v, H', I3, rv, ev, q3⟩ := I2.after hq'
      subst ev
      exact ⟨rv, ⟨V.ref (s.heap.objs.size + 1), H', I3, rfl, q3⟩⟩
    | next => exact False.elim hq'
    | brk => exact False.elim hq'
    | cont => exact False.elim hq'
theorem pe_make (M : Mk X.K C f) (F : FnOk X.prog X.w X.K X.mg X.base CX k f fd ps sp) (hr : Room (k + 1) X.A) (hg : Gl X x) (hm : X.mg x = some (.ref C)) (hb : Binds X.K fd ps ds) (hd : Vals dvs ds) (hx : Passes CX X E)
    (ha : PA X (e :: es) t) (hdb : (x == ("__debug__" : Str)) = false := by decide) (he : starEach (e :: es) X.env = (false, eval e X.env) :: starEach es X.env := by rfl) (hpl : (backTo pos (starEach es X.env)).any (·.1) = false := by rfl) :
    PE X (.Call (.Name x p) (e :: es) [] pos) (tMake C sp dvs E t) := by
  intro pins s σ H Q I h
  refine wpAny_Call_Name_kw (ld_glob I hg hm ?_ hdb)
  refine PySem.W.callWith_K (h₀ := X.base) I.ok.mod.kin M.kp (thn (ha pos pins s σ H _ I h) fun us s1 ⟨vs, H1, I1, r, q⟩ => ⟨I1.kIn, ?_⟩) he hpl
  exact run_make M F hr hb hd hx I1 r q
end

section
variable {X : Cx} {CX : CXT} {k : Nat} {f C : Addr} {fd : FuncData} {ps ks : List Str} {sp : Sp} {E : XK} {x m : Str} {p pos apos kpos : Pos} {e o : Expr} {es : List Expr} {kws : List Keyword} {te ta : TE} {t tk : TA} {nm : Option Str}
variable {g : List Value → List Value → List Value} {gV : List V → List V → List V}
end

/-- names: the parameters first -/
structure FnScope (N P : List Str) (sc : Scope) : Prop where
  kind : sc.kind = .function
  co : sc.isCoroutine = false
  gen : sc.isGenerator = false
  nd : N.Nodup
  pre : N.take P.length = P
  par : ∀ x ∈ P, sc.names.lookup x = some .local ∨ sc.names.lookup x = some .cell
  nofree : ∀ y ∈ sc.names, y.2 ≠ .free

theorem bindL_out {kindOf : Str → Option NameKind} {x : Str} : ∀ {binds : List (Str × Value)} {m : Str → Option Value}, (∀ v, (x, v) ∉ binds) → bindL kindOf binds m x = m x
  | [], _, _ => rfl
  | (n, v) :: r, m, h => by
    unfold bindL
    rw [bindL_out fun w hw => h w (List.mem_cons_of_mem _ hw)]
    split
    · have : x ≠ n := by rintro rfl; exact h v List.mem_cons_self
      simp [this]
    · rfl
theorem bindC_out {kindOf : Str → Option NameKind} {x : Str} : ∀ {binds : List (Str × Value)} {m : Str → Option Value}, (∀ v, (x, v) ∉ binds) → bindC kindOf binds m x = m x
  | [], _, _ => rfl
  | (n, v) :: r, m, h => by
    unfold bindC
    rw [bindC_out fun w hw => h w (List.mem_cons_of_mem _ hw)]
    split
    · rfl
    · have : x ≠ n := by rintro rfl; exact h v List.mem_cons_self
      simp [this]
theorem bindL_get {kindOf : Str → Option NameKind} {x : Str} {v : Value} : ∀ {P : List Str} {vs : List Value} {i : Nat} {m : Str → Option Value}, P.Nodup → P[i]? = some x → vs[i]? = some v → kindOf x = some .local →
    bindL kindOf (P.zip vs) m x = some v
  | [], _, _, _, _, h, _, _ => by simp at h
  | _ :: _, [], _, _, _, _, h, _ => by simp at h
  | p :: P, w :: vs, 0, m, nd, h1, h2, hk => by
    simp at h1 h2; subst h1; subst h2
    show bindL kindOf ((p, w) :: P.zip vs) m p = _
    unfold bindL
    rw [bindL_out fun v hv => (List.nodup_cons.mp nd).1 (List.of_mem_zip hv).1, if_pos hk]
    simp
  | p :: P, w :: vs, i + 1, m, nd, h1, h2, hk => by
    show bindL kindOf ((p, w) :: P.zip vs) m x = _
    unfold bindL
    exact bindL_get (i := i) (List.nodup_cons.mp nd).2 (by simpa using h1) (by simpa using h2) hk
theorem bindC_get {kindOf : Str → Option NameKind} {x : Str} {v : Value} : ∀ {P : List Str} {vs : List Value} {i : Nat} {m : Str → Option Value}, P.Nodup → P[i]? = some x → vs[i]? = some v → kindOf x ≠ some .local →
    bindC kindOf (P.zip vs) m x = some v
  | [], _, _, _, _, h, _, _ => by simp at h
  | _ :: _, [], _, _, _, _, h, _ => by simp at h
  | p :: P, w :: vs, 0, m, nd, h1, h2, hk => by
    simp at h1 h2; subst h1; subst h2
    show bindC kindOf ((p, w) :: P.zip vs) m p = _
    unfold bindC
    rw [bindC_out fun v hv => (List.nodup_cons.mp nd).1 (List.of_mem_zip hv).1, if_neg hk]
    simp
  | p :: P, w :: vs, i + 1, m, nd, h1, h2, hk => by
    show bindC kindOf ((p, w) :: P.zip vs) m x = _
    unfold bindC
    exact bindC_get (i := i) (List.nodup_cons.mp nd).2 (by simpa using h1) (by simpa using h2) hk

/-- the names' values at the entry -/
def start (N : List Str) (vs : List V) : St := vs.map some ++ List.replicate (N.length - vs.length) none

/-- the context of a def's body, at its entry; an exception leaves the frame, then lies as CX says -/
def cxOf (CX : CXT) (P : Program) (w : World) (K : PySem.W.Frag) (mg : Str → Option Value) (base : Heap) (N : List Str) (qual : Str) (scope : Scope) (f : Addr) (cd : Value) (A : Around) (outer : List Env) (s : Shared) (H : Hp) (E : XK) : Cx where
  prog := P
  w := w
  K := K
  mg := mg
  base := base
  A := A.deeper (envOfC qual scope s.heap.objs.size f cd)
  N := N
  s₀ := s
  H₀ := H
  env := envOfC qual scope s.heap.objs.size f cd
  outer := outer
  stack := envOfC qual scope s.heap.objs.size f cd :: outer
  ex := []
  calm := true
  fn := fun _ => true
  pn := []
  xe := fun e s' => wpAny (model P w) (A.deeper (envOfC qual scope s.heap.objs.size f cd)) (leaving (envOfC qual scope s.heap.objs.size f cd) e) (fun _ s'' => CX outer H s E e s'') (fun e' s'' => CX outer H s E e' s'') s'

theorem cell_has {sc : Scope} {n : Nat} {x : Str} (h : sc.names.lookup x = some .cell) : ∃ c, (cellsFrom n sc.names []).lookup x = some c := by
  have q := PySem.W.cellsFrom_some sc.names n [] (.inl h)
  exact Option.isSome_iff_exists.mp q

theorem inv_start {CX : CXT} {P : Program} {w : World} {K : PySem.W.Frag} {mg : Str → Option Value} {base : Heap} {N ps : List Str} {qual : Str} {scope : Scope} {f : Addr} {cd : Value} {A : Around} {outer : List Env} {s s1 : Shared} {H : Hp} {E : XK} {us : List Value} {vs : List V}
    (S : FnScope N ps scope) (hd : A.handled = none) (e0 : Env0 P w K mg base A outer s H) (hl : vs.length = ps.length) (r : Vals vs us)
    (x : InCallC s s.heap.objs.size (bindL (envOfC qual scope s.heap.objs.size f cd).kindOf (ps.zip us) fun _ => none) (cellsFrom (s.heap.objs.size + 1) scope.names []) (bindC (envOfC qual scope s.heap.objs.size f cd).kindOf (ps.zip us) fun _ => none) s1) :
    Inv (cxOf CX P w K mg base N qual scope f cd A outer s H E) [] (start N vs) H s1 := by
  have hpl : ps.length ≤ N.length := by have := congrArg List.length S.pre; rw [List.length_take] at this; omega
  obtain ⟨h1, tk, rfl, hk⟩ := x.done
  have noA : ∀ b : Addr, b ∉ (cxOf CX P w K mg base N qual scope f cd A outer s H E).ex := fun b z => absurd (show b ∈ ([] : List Addr) from z) (by simp)
  refine ⟨⟨e0.mod, S.kind, rfl, rfl, Nat.le_refl _, fun y z c h1 h2 => ?_, fun y hy => ?_, fun y c _ h => ?_, fun _ => hd, Around.frames_deeper e0.frames, .inr ⟨rfl, rfl⟩, fun b z => absurd z (noA b), e0.bs, e0.bsz, fun b _ _ => noA b, fun b z => absurd z (noA b), e0.funs, e0.frf⟩,
    rfl, e0.bare, Un.kept hk, ⟨_, x.toInCall.ns, fun i y v h1 h2 h3 => ?_⟩, fun y c h => ⟨_, x.cell y c h⟩, e0.hok.fresh (Nat.le_refl _), fun y c h => ?_, fun p hp => absurd (show p ∈ ([] : List (Addr × Obj)) from hp) (by simp), e0.hok.kept hk, ?_⟩
  · exact name_of_addr x.apart (PySem.mem_of_lookup h1) (PySem.mem_of_lookup h2)
  · have hy : scope.names.lookup y = some .cell ∨ scope.names.lookup y = some .free := hy
    rcases hy with hy | hy
    · exact cell_has hy
    · exact absurd rfl (S.nofree _ (PySem.mem_of_lookup hy))
  · exact Nat.le_of_lt (x.above y c (PySem.mem_of_lookup h))
  · have hi : i < vs.length := by
      unfold start at h2
      by_cases hi : i < vs.length
      · exact hi
      · rw [List.getElem?_append_right (by simpa using hi)] at h2
        rw [List.getElem?_replicate] at h2
        split at h2 <;> cases h2
    have ha : vs[i]? = some v := by
      unfold start at h2
      rw [List.getElem?_append_left (by simpa using hi), List.getElem?_map] at h2
      cases e : vs[i]? with
      | none => rw [e] at h2; cases h2
      | some a => rw [e] at h2; cases h2; rfl
    obtain ⟨u, hu, rv⟩ := r.get ha
    have hp : ps[i]? = some y := by
      rw [← S.pre, List.getElem?_take_of_lt (by omega)]; exact h1
    have ndP : ps.Nodup := by rw [← S.pre]; exact S.nd.sublist (List.take_sublist _ _)
    refine ⟨u, rv, ?_⟩
    rcases S.par y (List.mem_of_getElem? hp) with k | k
    · exact .inl ⟨k, bindL_get ndP hp hu k⟩
    · obtain ⟨c, e⟩ := cell_has (n := s.heap.objs.size + 1) k
      refine .inr ⟨.inl k, c, e, ?_⟩
      have q := x.cell y c e
      rw [bindC_get ndP hp hu (by show scope.names.lookup y ≠ _; rw [k]; decide)] at q
      exact q
  · exact e0.hok.fresh (Nat.le_of_lt (x.above y c (PySem.mem_of_lookup h)))
  · unfold start
    show _ = N.length
    rw [List.length_append, List.length_map, List.length_replicate]
    omega

/-- THE RULE: a def (or a method) of the text, by its body. The body's reading t is chosen for each entry; it is run at the parameters' values -/
theorem fn_of {CX : CXT} {P : Program} {w : World} {K : PySem.W.Frag} {mg : Str → Option Value} {base : Heap} {k : Nat} {f : Addr} {name qual : Str} {params : Arguments} {body : List Stmt} {scope : Scope} {dV kV doc pm cdv ct oc : Value} {an od : Option Addr}
    {osl : Array (Option Value)} {N ps : List Str} {sp : Sp} (lk : K.lookup f = some ⟨oc, od, .func (PySem.W.fnOf name qual params body scope dV kV doc pm an cdv ct), osl⟩) (hcd : PySem.W.codeIn K cdv qual = true) (S : FnScope N ps scope)
    (len : ∀ vs H Q E, sp vs H Q E → vs.length = ps.length)
    (hbody : ∀ (A : Around) (outer : List Env) (s : Shared) (H : Hp) (vs : List V) (Q : VK) (E : XK), Room k (A.deeper (envOfC qual scope s.heap.objs.size f cdv)) → sp vs H Q E →
      ∃ t, PSs (cxOf CX P w K mg base N qual scope f cdv A outer s H E) body t ∧ t { nx := fun _ H' => Q .non H', rt := Q } (start N vs) H) :
    FnOk P w K mg base CX (k + 1) f (PySem.W.fnOf name qual params body scope dV kV doc pm an cdv ct) ps sp := by
  refine ⟨len, fun A outer s H args us vs Q E hr e0 hb r hsp => ?_⟩
  have hl := len _ _ _ _ hsp
  have KX : K.In s.heap := e0.mod.kin.keeps fun b o e => (e0.bs b o e).1
  have lim : s.heap.NoLimit := e0.mod.nolimit.keeps fun b o e => (e0.bs b o e).1
  have hkind : ∀ y ∈ ps.zip us, scope.names.lookup y.1 = some .local ∨ (scope.names.lookup y.1 = some .cell ∧ ((cellsFrom (s.heap.objs.size + 1) scope.names []).lookup y.1).isSome = true) := fun ⟨n, v⟩ hy => by
    rcases S.par n (List.of_mem_zip hy).1 with q | q
    · exact .inl q
    · exact .inr ⟨q, PySem.W.cellsFrom_some _ _ _ (.inl q)⟩
  refine codeAny_call_function hr.depth (KX _ _ lk) rfl S.co S.gen rfl (PySem.W.codeRec_of KX hcd) (hb _ _ _ _ ?_)
  refine wpAny_newFunctionEnv_cells S.kind hkind fun env he s1 x => ?_
  subst he
  refine ⟨lim.keeps x.toInCall.keep, codeAny_func ?_⟩
  obtain ⟨t, ht, hq⟩ := hbody A outer s H vs Q E (hr.deeper _) hsp
  have I : Inv (cxOf CX P w K mg base N qual scope f cdv A outer s H E) [] (start N vs) H s1 := inv_start S hr.hd e0 hl r x
  refine wpAny_mono (ht [] s1 (start N vs) H _ I hq) (fun fl s' hs => ?_) fun e s' hs => hs
  have fin : ∀ {σ' : St} {H' : Hp} {v : V} {u : Value}, Inv (cxOf CX P w K mg base N qual scope f cdv A outer s H E) [] σ' H' s' → RelV v u → Q v H' → CE outer P w H s Q u s' :=
    fun {σ' H' v u} J rv q => ⟨v, H', J.os, J.bare, J.base, J.hok, rv, q⟩
  cases fl with
  | ret u =>
    obtain ⟨v, σ', H', J, rv, q⟩ := hs
    exact fin J rv q
  | next =>
    obtain ⟨σ', H', J, q⟩ := hs
    exact fin (v := V.non) (u := Value.none) J rfl q
  | brk =>
    obtain ⟨_, _, _, q⟩ := hs
    exact False.elim q
  | cont =>
    obtain ⟨_, _, _, q⟩ := hs
    exact False.elim q
end L2

namespace L2
open PySem PySem.Spec PyProof.Rows
section
variable {X : Cx} {x : Str} {p pos : Pos} {e : Expr} {es : List Expr} {t : TA} {id T : String} {r : List V → Hp → VK → Prop}

def tCB (r : List V → Hp → VK → Prop) (t : TA) : TE := fun σ H Q => t σ H fun vs H1 => r vs H1 Q
/-- f(e, ..), f a built-in function -/
theorem pe_callB (hc : CallR X (.builtin id) r) (hg : Gl X x) (hm : X.mg x = none) (hv : bootBuiltins x = some (.builtin id)) (ha : PA X (e :: es) t) (hn : x ≠ "__name__" := by decide) (hdb : (x == ("__debug__" : Str)) = false := by decide)
    (he : starEach (e :: es) X.env = (false, eval e X.env) :: starEach es X.env := by rfl) (hpl : (backTo pos (starEach es X.env)).any (·.1) = false := by rfl) : PE X (.Call (.Name x p) (e :: es) [] pos) (tCB r t) := by
  intro pins s σ H Q I h
  refine wpAny_Call_Name_kw (ld_blt I hg hm hv ?_ hn hdb)
  exact PyProof.Rows.callWith_builtin1 (thn (ha pos pins s σ H _ I h) fun us s1 ⟨vs, H1, I1, r1, q1⟩ => hc pins s1 σ H1 vs us Q I1 r1 q1) he hpl
/-- T(e, ..), T a built-in type -/
theorem pe_callTy (hc : CallR X (.type T) r) (hg : Gl X x) (hm : X.mg x = none) (hv : bootBuiltins x = some (.type T)) (ha : PA X (e :: es) t) (hn : x ≠ "__name__" := by decide) (hdb : (x == ("__debug__" : Str)) = false := by decide)
    (he : starEach (e :: es) X.env = (false, eval e X.env) :: starEach es X.env := by rfl) (hpl : (backTo pos (starEach es X.env)).any (·.1) = false := by rfl) : PE X (.Call (.Name x p) (e :: es) [] pos) (tCB r t) := by
  intro pins s σ H Q I h
  refine wpAny_Call_Name_kw (ld_blt I hg hm hv ?_ hn hdb)
  exact PyProof.Rows.callWith_type1 (thn (ha pos pins s σ H _ I h) fun us s1 ⟨vs, H1, I1, r1, q1⟩ => hc pins s1 σ H1 vs us Q I1 r1 q1) he hpl
end
end L2

namespace HT
open PySem PyProof.Rows

section
open PySem.SeqAt
open PySem.AutoSeq1 (wpAny_loadPart')
open PySem.MeetsSeq PySem.MeetsSeq2 PySem.MeetsSeq3

end

section
variable {prog : Program} {w : World} {A : Around} {E : Value → Shared → Prop} {s : Shared}

/-- a slice's bound as a place among n (d where it is left out) -/
def sIx (n d : Nat) : Option Int → Nat
  | none => d
  | some v => if v < 0 then (v + (n : Int)).toNat else min v.toNat n
end
end HT

namespace L2
open PySem PySem.Spec PyProof.Rows

abbrev TO := St → Hp → (Option Int → Hp → Prop) → Prop
/-- a slice's part (left out, or an int) -/
def PO (X : Cx) (e : Option Expr) (t : TO) : Prop :=
  ∀ (pins : List (Addr × Obj)) (s : Shared) (σ : St) (H : Hp) (Q : Option Int → Hp → Prop), Inv X pins σ H s → t σ H Q →
    wpAny (model X.prog X.w) X.A (evalPart e X.env) (fun u s' => ∃ o H', Inv X pins σ H' s' ∧ IsPart u o ∧ Q o H') X.xe s
def tNoPart : TO := fun _ H Q => Q none H
def tPart (t : TE) : TO := fun σ H Q => t σ H fun x H1 => ∃ i, x = .int i ∧ Q (some i) H1

section
variable {X : Cx} {e : Expr} {te : TE} {lo hi : Option Expr} {tl th : TO} {pos p2 : Pos}

theorem po_none : PO X none tNoPart := by
  intro pins s σ H Q I h
  rw [evalPart_none]
  exact wpAny_pure ⟨none, H, I, .none, h⟩
theorem po_some (h : PE X e te) : PO X (some e) (tPart te) := by
  intro pins s σ H Q I hw
  rw [evalPart_some]
  refine thn (h pins s σ H _ I hw) fun u s1 ⟨x, H1, I1, r1, q1⟩ => ?_
  obtain ⟨i, rfl, q⟩ := q1
  obtain ⟨t, rfl⟩ := r1
  exact ⟨some i, H1, I1, .int i t, q⟩

/-- what a slice of a value is, by values: the slice object stands at sl -/
def SlR (X : Cx) (r : V → Option Int → Option Int → Hp → VK → Prop) : Prop :=
  ∀ (pins : List (Addr × Obj)) (s : Shared) (σ : St) (H : Hp) (x : V) (v vl vu : Value) (lo hi : Option Int) (sl : Addr) (Q : VK), Inv X pins σ H s → RelV x v → s.heap.IsSliceOf sl vl vu .none → IsPart vl lo → IsPart vu hi → r x lo hi H Q →
    ∃ T id, typeLookup (.type T) "__getitem__" = pure (some (.builtin id)) ∧ s.TypeIs v T ∧ wpAny (model X.prog X.w) X.A (getItem v (.ref sl)) (EP X pins σ Q) X.xe s
def tSl (r : V → Option Int → Option Int → Hp → VK → Prop) (te : TE) (tl th : TO) : TE := fun σ H Q => te σ H fun x H1 => tl σ H1 fun l H2 => th σ H2 fun u H3 => r x l u H3 Q
/-- a[lo:hi], any a -/
theorem pe_slice {r : V → Option Int → Option Int → Hp → VK → Prop} (hr : SlR X r) (he : PE X e te) (hl : PO X lo tl) (hu : PO X hi th) : PE X (.Subscript e (.Slice lo hi none p2) pos) (tSl r te tl th) := by
  intro pins s σ H Q I h
  refine Subscript_ (thn (he pins s σ H _ I h) fun v s1 ⟨x, H1, I1, r1, q1⟩ => ?_)
  refine wpAny_Slice (thn (hl pins s1 σ H1 _ I1 q1) fun vl s2 ⟨l, H2, I2, pl, q2⟩ => thn (hu pins s2 σ H2 _ I2 q2) fun vu s3 ⟨u, H3, I3, pu, q3⟩ => ?_)
  rw [evalPart_none]
  refine wpAny_pure ?_
  have I4 : Inv X pins σ H3 { s3 with heap := s3.heap.push { cls := .type "slice", data := .fields #[vl, vu, .none] } } := I3.kept (t' := s3.toks) fun b ob q => Heap.get?_push_of_some _ q
  obtain ⟨T, id, hT, ht, hg⟩ := hr pins { s3 with heap := s3.heap.push { cls := .type "slice", data := .fields #[vl, vu, .none] } } σ H3 x v vl vu l u s3.heap.objs.size Q I4 r1 (Heap.IsSliceOf.new ..) pl pu q3
  show wpAny (model X.prog X.w) X.A (subscriptTail e (.Slice lo hi none p2) v (.ref s3.heap.objs.size)) (EP X pins σ Q) X.xe { s3 with heap := s3.heap.push { cls := .type "slice", data := .fields #[vl, vu, .none] } }
  exact tail_any (ops := [.ref s3.heap.objs.size, v]) ht hT hg (by with_unfolding_all rfl)

/-- the items of xs[lo:hi] -/
def cutV (xs : List V) (lo hi : Option Int) : List V := (xs.drop (HT.sIx xs.length 0 lo)).take (HT.sIx xs.length xs.length hi - HT.sIx xs.length 0 lo)
theorem cutV_length (xs : List V) (lo hi : Option Int) : (cutV xs lo hi).length ≤ xs.length := by
  unfold cutV
  rw [List.length_take, List.length_drop]
  omega
end
end L2

namespace L2
open PySem PySem.Spec PyProof.Rows

/-- the place that an index of any sign means -/
def ixN (n : Nat) (i : Int) : Option Nat := if 0 ≤ i then (if i < n then some i.toNat else none) else if -(n : Int) ≤ i then some (i + n).toNat else none
def atI {α : Type} (xs : List α) (i : Int) : Option α := (ixN xs.length i).bind fun j => xs[j]?
theorem ixN_seq {n : Nat} {i : Int} {j : Nat} (h : ixN n i = some j) : seqIndex? i n = some j ∧ j < n ∧ -(n : Int) ≤ i ∧ i < n := by
  unfold ixN at h
  by_cases h0 : 0 ≤ i
  · rw [if_pos h0] at h
    by_cases h1 : i < n
    · rw [if_pos h1] at h
      have e : i.toNat = j := Option.some.inj h
      exact ⟨by rw [seqIndex_of h0 h1, e], by omega, by omega, h1⟩
    · rw [if_neg h1] at h; cases h
  · rw [if_neg h0] at h
    by_cases h1 : -(n : Int) ≤ i
    · rw [if_pos h1] at h
      have e : (i + n).toNat = j := Option.some.inj h
      exact ⟨by rw [seqIndex_neg (by omega) h1, e], by omega, h1, by omega⟩
    · rw [if_neg h1] at h; cases h
theorem atI_get {α : Type} {xs : List α} {i : Int} {v : α} (h : atI xs i = some v) : ∃ j, seqIndex? i xs.length = some j ∧ xs[j]? = some v ∧ j < xs.length ∧ -(xs.length : Int) ≤ i ∧ i < xs.length := by
  unfold atI at h
  cases e : ixN xs.length i with
  | none => rw [e] at h; cases h
  | some j =>
    rw [e] at h
    obtain ⟨h1, h2, h3, h4⟩ := ixN_seq e
    exact ⟨j, h1, h, h2, h3, h4⟩
theorem atI_nat {α : Type} {xs : List α} {j : Nat} {v : α} (h : xs[j]? = some v) : atI xs (j : Int) = some v := by
  have hj : j < xs.length := (List.getElem?_eq_some_iff.mp h).1
  have e : ixN xs.length (j : Int) = some j := by
    unfold ixN
    rw [if_pos (by omega), if_pos (by omega)]; simp
  unfold atI; rw [e]; exact h
/-- what stands as an index of a plain subscript -/
def PlainIx (b : Expr) : Prop := ∀ o i, subscripted b false o i = operate [o, i] (getItem o i)
/-- a subscript by values -/
def IxR (X : Cx) (r : R2) : Prop :=
  ∀ (value slice : Expr) (pins : List (Addr × Obj)) (s : Shared) (σ : St) (H : Hp) (x y : V) (v u : Value) (Q : VK), Inv X pins σ H s → RelV x v → RelV y u → r x y H Q →
    subscripted slice false v u = operate [v, u] (getItem v u) → wpAny (model X.prog X.w) X.A (subscriptTail value slice v u) (EP X pins σ Q) X.xe s
/-- a call of a builtin's method by values: the receiver, the arguments -/
def MtR (X : Cx) (id : String) (r : V → List V → Hp → VK → Prop) : Prop :=
  ∀ (pins : List (Addr × Obj)) (s : Shared) (σ : St) (H : Hp) (x : V) (xs : List V) (v : Value) (us : List Value) (Q : VK), Inv X pins σ H s → RelV x v → Vals xs us → r x xs H Q →
    wpAny (model X.prog X.w) X.A (call (.builtin id) (v :: us)) (EP X pins σ Q) X.xe s
section
variable {X : Cx} {a b : Expr} {ta tb : TE} {pos : Pos}
/-- a[b] -/
theorem pe_ix {r : R2} (hr : IxR X r) (ha : PE X a ta) (hb : PE X b tb) (hs : PlainIx b) : PE X (.Subscript a b pos) (tOp r ta tb) := by
  intro pins s σ H Q I h
  exact Subscript_ (binT ha hb I h fun v u s2 x y H2 I2 rx ry q => hr a b pins s2 σ H2 x y v u Q I2 rx ry q (hs _ _))

def rIxL (K : PySem.W.Frag) : R2 := fun x y H Q => ∃ p xs i v, x = .ref p ∧ y = .int i ∧ SqL K H p xs ∧ atI xs i = some v ∧ Q v H
def rIxT (K : PySem.W.Frag) : R2 := fun x y H Q => ∃ p xs i v, x = .ref p ∧ y = .int i ∧ SqT K H p xs ∧ atI xs i = some v ∧ Q v H
theorem ix_list : IxR X (rIxL X.K) := by
  intro value slice pins s σ H x y v u Q I rx ry h hs
  obtain ⟨p, xs, i, z, rfl, rfl, hq, he, q⟩ := h
  cases rx
  obtain ⟨t, rfl⟩ := ry
  obtain ⟨its, r, pl, hz⟩ := I.list hq
  obtain ⟨j, h1, h2, h3, h4, h5⟩ := atI_get he
  obtain ⟨w, ew, rw'⟩ := r.get h2
  have hl := r.length
  have hn := line63
  have fin : EP X pins σ Q w s := ⟨z, H, I, rw', q⟩
  by_cases h0 : 0 ≤ i
  · have hj : i.toNat = j := by
      rw [seqIndex_of h0 h5] at h1
      exact Option.some.inj h1
    exact item_listR pl.isList h0 (by omega) (by rw [hj]; simpa using ew) fin hs
  · have hj : (i + (its.toArray.size : Int)).toNat = j := by
      rw [seqIndex_neg (by omega) h4] at h1
      rw [List.size_toArray, ← hl]
      exact Option.some.inj h1
    exact subscriptTail_builtinR (x := w) pl.isList.typeIs slot_list_getitem.lookup
      (wpAny_getItem_list_neg (Q := fun r s' => r = w ∧ EP X pins σ Q r s') pl.isList (by omega) (by rw [List.size_toArray] <;> omega) (by omega) (by rw [hj]; simpa using ew) ⟨rfl, fin⟩) hs
theorem ix_tup : IxR X (rIxT X.K) := by
  intro value slice pins s σ H x y v u Q I rx ry h hs
  obtain ⟨p, xs, i, z, rfl, rfl, hq, he, q⟩ := h
  cases rx
  obtain ⟨t, rfl⟩ := ry
  obtain ⟨its, r, pl, hz⟩ := I.tuple hq
  obtain ⟨j, h1, h2, h3, h4, h5⟩ := atI_get he
  obtain ⟨w, ew, rw'⟩ := r.get h2
  have hl := r.length
  have hn := line63
  have fin : EP X pins σ Q w s := ⟨z, H, I, rw', q⟩
  exact subscriptTail_builtinR (x := w) pl.typeIs slot_tuple_getitem.lookup
    (getItem_tuple (j := j) (Q := fun r s' => r = w ∧ EP X pins σ Q r s') pl (by omega) (by omega) (by rw [List.size_toArray, ← hl]; exact h1) (by simpa using ew) ⟨rfl, fin⟩) hs
/-- the list's object behind a store -/
theorem mapSeq_set (its : List Value) (n j : Nat) (u : Value) : Obj.mapSeq (·.setIfInBounds j u) { cls := .type "list", data := .seq its.toArray n } = { cls := .type "list", data := .seq (its.set j u).toArray n } := by
  simp [Obj.mapSeq]
theorem Inv.lst {pins : List (Addr × Obj)} {σ : St} {H : Hp} {s : Shared} {p : Addr} {xs : List V} (I : Inv X pins σ H s) (h : H p = some (.lst xs)) :
    ∃ (its : List Value) (n : Nat), Vals xs its ∧ s.heap.get? p = some { cls := .type "list", data := .seq its.toArray n } ∧ xs.length ≤ sizeLine := by
  obtain ⟨z, its, n, r, e⟩ := I.hok p _ h
  exact ⟨its, n, r, e, z⟩
/-- the list at p is written by an update of its object -/
theorem Inv.lstUpd {pins : List (Addr × Obj)} {σ : St} {H : Hp} {s : Shared} {p : Addr} {xs ys : List V} {its its' : List Value} {n n' : Nat} {f : Obj → Obj} (I : Inv X pins σ H s) (h : H p = some (.lst xs))
    (ho : s.heap.get? p = some { cls := .type "list", data := .seq its.toArray n }) (hf : f { cls := .type "list", data := .seq its.toArray n } = { cls := .type "list", data := .seq its'.toArray n' }) (r : Vals ys its') (hz : ys.length ≤ sizeLine) (t : Nat) :
    Inv X pins σ (upd H p (.lst ys)) { s with heap := s.heap.update p f, toks := t } := by
  have e : (s.heap.update p f).get? p = some { cls := .type "list", data := .seq its'.toArray n' } := by
    rw [Heap.get?_update_self f ho (by rw [hf] <;> rfl), hf]
  refine I.write (x := p) (e := p) (by rw [h]; trivial) (.inl rfl) (fun b u hb q => (Heap.get?_update_other _ _ (Ne.symm hb)).trans q) ⟨_, e⟩ ?_
  exact ⟨hz, its', n', r, e⟩
def rSetL : V → V → V → Hp → (Hp → Prop) → Prop := fun o i v H Q => ∃ p xs k j, o = .ref p ∧ i = .int k ∧ H p = some (.lst xs) ∧ ixN xs.length k = some j ∧ Q (upd H p (.lst (xs.set j v)))
theorem set_list : PSet X rSetL := by
  intro pins s σ H o i v ov iv u Q I ro ri rv h
  obtain ⟨p, xs, k, j, rfl, rfl, hp, hj, q⟩ := h
  cases ro
  obtain ⟨t, rfl⟩ := ri
  obtain ⟨its, n, r, ho, hz⟩ := I.lst hp
  obtain ⟨h1, h2, h3, h4⟩ := ixN_seq hj
  have hl := r.length
  have hn := line63
  have I' : Inv X pins σ (upd H p (.lst (xs.set j v))) { s with heap := s.heap.update p (Obj.mapSeq (·.setIfInBounds j u)) } :=
    I.lstUpd hp ho (mapSeq_set its n j u) (r.set rv j) (by rw [List.length_set]; exact hz) s.toks
  by_cases h0 : 0 ≤ k
  · have hk : k.toNat = j := by
      rw [seqIndex_of h0 h4] at h1
      exact Option.some.inj h1
    exact PySem.W.ki_setAt ho h0 (by omega) (by rw [List.size_toArray, ← hl]; exact h4) (by rw [hk]; exact ⟨_, I', q⟩)
  · have hk : (k + (its.toArray.size : Int)).toNat = j := by
      rw [seqIndex_neg (by omega) h3] at h1
      rw [List.size_toArray, ← hl]
      exact Option.some.inj h1
    exact PySem.W.ki_setBack ho (by omega) (by rw [List.size_toArray, ← hl]; exact h3) (by omega) (by rw [hk]; exact ⟨_, I', q⟩)

theorem slice_bounds (lo hi : Option Int) (n : Nat) : (sliceBounds lo hi none n).1 = ((HT.sIx n 0 lo : Nat) : Int) ∧ (sliceBounds lo hi none n).2.1 = ((HT.sIx n n hi : Nat) : Int) ∧ (sliceBounds lo hi none n).2.2 = 1 := by
  refine ⟨?_, ?_, rfl⟩
  · cases lo with
    | none => simp [sliceBounds, HT.sIx]
    | some i =>
      simp only [sliceBounds, HT.sIx, Option.getD_none, show (1 : Int) > 0 by decide, if_true]
      by_cases h : i < 0
      · simp only [h, if_true] <;> omega
      · simp only [h, if_false] <;> omega
  · cases hi with
    | none => simp [sliceBounds, HT.sIx]
    | some i =>
      simp only [sliceBounds, HT.sIx, Option.getD_none, show (1 : Int) > 0 by decide, if_true]
      by_cases h : i < 0
      · simp only [h, if_true] <;> omega
      · simp only [h, if_false] <;> omega
theorem slicePick_cut (its : List Value) (lo hi : Option Int) : slicePick its.toArray lo hi none = ((its.drop (HT.sIx its.length 0 lo)).take (HT.sIx its.length its.length hi - HT.sIx its.length 0 lo)).toArray := by
  obtain ⟨h1, h2, h3⟩ := slice_bounds lo hi its.toArray.size
  unfold slicePick
  rw [h1, h2, h3]
  simp only [sliceRange_one, pick_run, List.size_toArray] <;> rfl
/-- xs[lo:hi] of a list: a new list -/
def rSlL (K : PySem.W.Frag) : V → Option Int → Option Int → Hp → VK → Prop := fun x lo hi H Q => ∃ a xs, x = .ref a ∧ SqL K H a xs ∧ ∀ p, H p = none → Q (.ref p) (upd H p (.lst (cutV xs lo hi)))
theorem sl_list : SlR X (rSlL X.K) := by
  intro pins s σ H x v vl vu lo hi sl Q I rx hs pl pu h
  obtain ⟨a, xs, rfl, hx, q⟩ := h
  cases rx
  obtain ⟨its, r, ht, hz⟩ := I.list hx
  have hlen := r.length
  refine ⟨"list", _, slot_list_getitem.lookup, ht.isList.typeIs, ?_⟩
  refine wpAny_getItem_list_slice ht.isList hs pl pu .none (by simp) ?_ (by rw [List.size_toArray] <;> omega)
  rw [slicePick_cut, ← hlen]
  refine ⟨.ref s.heap.objs.size, _, I.laid (t' := s.toks) (o := .lst (cutV xs lo hi)) (fun b ob q => Heap.get?_push_of_some _ q) (Nat.le_refl _) ?_, rfl, q _ (I.hok.fresh (Nat.le_refl _))⟩
  exact ⟨Nat.le_trans (cutV_length xs lo hi) hz, _, 0, (r.drop (HT.sIx xs.length 0 lo)).take (HT.sIx xs.length xs.length hi - HT.sIx xs.length 0 lo), Heap.get?_push_size _ rfl⟩

def flatV : V → Bool
  | .non => true
  | .bl _ => true
  | .int _ => true
  | .str _ => true
  | _ => false
/-- == of flat values -/
def eqV : V → V → Bool
  | .non, .non => true
  | .bl a, .bl b => a == b
  | .bl a, .int b => (if a then 1 else 0) == b
  | .int a, .bl b => a == (if b then 1 else 0)
  | .int a, .int b => a == b
  | .str a, .str b => a == b
  | _, _ => false
theorem eqAt_V {A : Around} {s : Shared} {y x : V} {u v : Value} (ry : RelV y u) (rx : RelV x v) (fy : flatV y = true) (fx : flatV x = true) : SeqAt.EqAt A s u v (eqV y x) := by
  cases y with
  | non =>
    cases ry
    cases x with
    | non => cases rx; exact SeqAt.EqAt.same _
    | bl b => cases rx; exact SeqAt.EqAt.none_bool b
    | int b => obtain ⟨t, rfl⟩ := rx; exact SeqAt.EqAt.none_int b t
    | str b => obtain ⟨t, rfl⟩ := rx; exact SeqAt.EqAt.none_str b t
    | _ => exact absurd (show false = true from fx) Bool.false_ne_true
  | bl a =>
    cases ry
    cases x with
    | non => cases rx; exact SeqAt.EqAt.bool_none a
    | bl b => cases rx; exact SeqAt.EqAt.bool_bool a b
    | int b => obtain ⟨t, rfl⟩ := rx; exact SeqAt.EqAt.bool_int a b t
    | str b => obtain ⟨t, rfl⟩ := rx; exact SeqAt.EqAt.bool_str a b t
    | _ => exact absurd (show false = true from fx) Bool.false_ne_true
  | int a =>
    obtain ⟨t', rfl⟩ := ry
    cases x with
    | non => cases rx; exact SeqAt.EqAt.int_none a t'
    | bl b => cases rx; exact SeqAt.EqAt.int_bool a t' b
    | int b => obtain ⟨t, rfl⟩ := rx; exact SeqAt.EqAt.int_int a t' b t
    | str b => obtain ⟨t, rfl⟩ := rx; exact SeqAt.EqAt.int_str a t' b t
    | _ => exact absurd (show false = true from fx) Bool.false_ne_true
  | str a =>
    obtain ⟨t', rfl⟩ := ry
    cases x with
    | non => cases rx; exact SeqAt.EqAt.str_none a t'
    | bl b => cases rx; exact SeqAt.EqAt.str_bool a t' b
    | int b => obtain ⟨t, rfl⟩ := rx; exact SeqAt.EqAt.str_int a t' b t
    | str b => obtain ⟨t, rfl⟩ := rx; exact SeqAt.EqAt.str_str a t' b t
    | _ => exact absurd (show false = true from fx) Bool.false_ne_true
  | _ => exact absurd (show false = true from fy) Bool.false_ne_true
/-- the items' answers, read off the values (a value's own answer does not lean on its token) -/
def eqU (x : V) (u : Value) : Bool := match u with
  | .none => eqV .non x
  | .bool b => eqV (.bl b) x
  | .int i _ => eqV (.int i) x
  | .str z _ => eqV (.str z) x
  | _ => false
theorem eqU_of {x y : V} {u : Value} (r : RelV y u) (f : flatV y = true) : eqU x u = eqV y x := by
  cases y with
  | non => cases r; rfl
  | bl b => cases r; rfl
  | int i => obtain ⟨t, rfl⟩ := r; rfl
  | str z => obtain ⟨t, rfl⟩ := r; rfl
  | _ => exact absurd (show false = true from f) Bool.false_ne_true
theorem any_eqU {x : V} : ∀ {xs : List V} {us : List Value}, Vals xs us → xs.all flatV = true → us.any (eqU x) = xs.any fun y => eqV y x
  | _, _, .nil, _ => rfl
  | y :: xs, u :: us, .cons r t, f => by
    rw [List.all_cons, Bool.and_eq_true] at f
    rw [List.any_cons, List.any_cons, eqU_of r f.1, any_eqU t f.2]
theorem mem_eqAt {A : Around} {s : Shared} {x : V} {v : Value} (rx : RelV x v) (fx : flatV x = true) : ∀ {xs : List V} {us : List Value}, Vals xs us → xs.all flatV = true → ∀ u ∈ us, SeqAt.EqAt A s u v (eqU x u)
  | _, _, .nil, _ => fun u hu => by cases hu
  | y :: xs, u :: us, .cons r t, f => fun u' hu => by
    rw [List.all_cons, Bool.and_eq_true] at f
    rcases List.mem_cons.mp hu with rfl | hu
    · rw [eqU_of r f.1]; exact eqAt_V r rx f.1 fx
    · exact mem_eqAt rx fx t f.2 u' hu
def inV (x : V) (xs : List V) : Bool := xs.any fun y => eqV y x
/-- x in a list or tuple of flat items -/
def rIn (K : PySem.W.Frag) (neg : Bool) : R2 := fun x y H Q => ∃ p xs, y = .ref p ∧ (SqL K H p xs ∨ SqT K H p xs) ∧ flatV x = true ∧ xs.all flatV = true ∧ Q (.bl (if neg then !inV x xs else inV x xs)) H
theorem op_in_seq : OpR X (compareOp .In) (rIn X.K false) := by
  intro pins s σ H x y v u Q I rx ry h
  obtain ⟨p, xs, rfl, hq, fx, fs, q⟩ := h
  cases ry
  rcases hq with hq | hq
  · obtain ⟨its, r, pl, hz⟩ := I.list hq
    refine SeqAt.in_listAt (eqU x) pl.isList (fun w hw => mem_eqAt rx fx r fs w (by simpa using hw)) ⟨.bl _, H, I, rfl, ?_⟩
    rw [show its.toArray.any (eqU x) = its.any (eqU x) by simp, any_eqU r fs]
    exact q
  · obtain ⟨its, r, pl, hz⟩ := I.tuple hq
    refine SeqAt.in_tupleAt (eqU x) pl (fun w hw => mem_eqAt rx fx r fs w (by simpa using hw)) ⟨.bl _, H, I, rfl, ?_⟩
    rw [show its.toArray.any (eqU x) = its.any (eqU x) by simp, any_eqU r fs]
    exact q
theorem call_len_seq : CallR X (.builtin "len") (fun xs H Q => ∃ p ys, xs = [.ref p] ∧ (SqL X.K H p ys ∨ SqT X.K H p ys) ∧ Q (.int ys.length) H) := by
  intro pins s σ H xs us Q I r h
  obtain ⟨p, ys, rfl, hq, q⟩ := h
  obtain ⟨u, rfl, rx⟩ := vals1 r
  cases rx
  have hn := line63
  rcases hq with hq | hq
  · obtain ⟨its, r', pl, hz⟩ := I.list hq
    have hlen := r'.length
    exact Calls.call_len_list pl.isList (by simp only [List.size_toArray] <;> omega) ⟨.int ys.length, H, I.tok _, ⟨s.toks + 1, by rw [List.size_toArray, hlen]⟩, q⟩
  · obtain ⟨its, r', pl, hz⟩ := I.tuple hq
    have hlen := r'.length
    exact len_tuple pl (by simp only [List.size_toArray] <;> omega) ⟨.int ys.length, H, I.tok _, ⟨s.toks + 1, by rw [List.size_toArray, hlen]⟩, q⟩
theorem call_list_of : CallR X (.type "list") (fun xs H Q => ∃ p ys, xs = [.ref p] ∧ (SqL X.K H p ys ∨ SqT X.K H p ys) ∧ ∀ l, H l = none → Q (.ref l) (upd H l (.lst ys))) := by
  intro pins s σ H xs us Q I r h
  obtain ⟨p, ys, rfl, hq, q⟩ := h
  obtain ⟨u, rfl, rx⟩ := vals1 r
  cases rx
  have fin : ∀ (its : List Value), Vals ys its → ys.length ≤ sizeLine → ∀ (h' : Heap) (c' : Nat), (∀ b o', s.heap.get? b = some o' → h'.get? b = some o') →
      h'.get? s.heap.objs.size = some { cls := .type "list", dict := none, data := .seq its.toArray c', slots := #[] } → EP X pins σ Q (.ref s.heap.objs.size) { s with heap := h' } := fun its r' hz h' c' kp e =>
    ⟨.ref s.heap.objs.size, _, I.laid (t' := s.toks) kp (Nat.le_refl _) (show ObjOk X.prog X.w _ h' _ (.lst ys) from ⟨hz, its, c', r', e⟩), rfl, q _ (I.hok.fresh (Nat.le_refl _))⟩
  rcases hq with hq | hq
  · obtain ⟨its, r', pl, hz⟩ := I.list hq
    have hlen := r'.length
    obtain ⟨o, ho, hc, n, hd⟩ := pl.isList
    exact call_list_seq p (.inl rfl) ho hc hd (fun h' c' kp e => fin its r' hz h' c' kp e) (by simp only [List.size_toArray] <;> omega)
  · obtain ⟨its, r', pl, hz⟩ := I.tuple hq
    have hlen := r'.length
    obtain ⟨o, ho, hc, n, hd⟩ := pl
    exact call_list_seq p (.inr rfl) ho hc hd (fun h' c' kp e => fin its r' hz h' c' kp e) (by simp only [List.size_toArray] <;> omega)
theorem call_tuple_of : CallR X (.type "tuple") (fun xs H Q => ∃ p ys, xs = [.ref p] ∧ ((SqL X.K H p ys ∧ ∀ l, H l = none → Q (.ref l) (upd H l (.tup ys))) ∨ (SqT X.K H p ys ∧ Q (.ref p) H))) := by
  intro pins s σ H xs us Q I r h
  obtain ⟨p, ys, rfl, h⟩ := h
  obtain ⟨u, rfl, rx⟩ := vals1 r
  cases rx
  rcases h with ⟨hq, q⟩ | ⟨hq, q⟩
  · obtain ⟨its, r', pl, hz⟩ := I.list hq
    have hlen := r'.length
    refine call_tuple_list pl.isList (fun h' kp => ?_) (by simp only [List.size_toArray] <;> omega)
    have I1 : Inv X pins σ H { s with heap := h' } := I.kept (t' := s.toks) kp
    have I2 : Inv X pins σ (upd H h'.objs.size (.tup ys)) { s with heap := h'.push { cls := .type "tuple", data := .seq its.toArray } } :=
      I1.laid (t' := s.toks) (fun b o e => Heap.get?_push_of_some _ e) (Nat.le_refl _) (show ObjOk X.prog X.w _ _ _ (.tup ys) from ⟨hz, its, r', IsTup.new _ _⟩)
    exact ⟨.ref h'.objs.size, _, I2, rfl, q _ (I1.hok.fresh (Nat.le_refl _))⟩
  · obtain ⟨its, r', pl, hz⟩ := I.tuple hq
    exact call_tuple_same pl ⟨.ref p, H, I, rfl, q⟩

/-- the value is of that builtin type -/
def tyV (K : PySem.W.Frag) (T : String) (x : V) (H : Hp) : Prop := match x with
  | .str _ => T = "str"
  | .int _ => T = "int"
  | .ref p => (T = "list" ∧ ∃ xs, SqL K H p xs) ∨ (T = "tuple" ∧ ∃ o, K.lookup p = some o ∧ o.cls = .type "tuple" ∧ o.dict = none) ∨
      (T = "dict" ∧ ((∃ kvs, H p = some (.dK kvs)) ∨ ∃ kvs, H p = some (.dT kvs))) ∨ (T = "set" ∧ ∃ S n, H p = some (.set S n))
  | _ => False
theorem tyV_is {pins : List (Addr × Obj)} {σ : St} {H : Hp} {s : Shared} {T : String} {x : V} {v : Value} (I : Inv X pins σ H s) (r : RelV x v) (ty : tyV X.K T x H) :
    s.TypeIs v T ∧ ∀ a, v = .ref a → ∃ ob, s.heap.get? a = some ob ∧ ob.dict = none := by
  cases x with
  | str z =>
    obtain ⟨t, rfl⟩ := r
    cases (show T = "str" from ty)
    exact ⟨typeIs_str s z t, fun _ e => nomatch e⟩
  | int i =>
    obtain ⟨t, rfl⟩ := r
    cases (show T = "int" from ty)
    exact ⟨typeIs_int s i t, fun _ e => nomatch e⟩
  | ref p =>
    cases r
    rcases ty with ⟨rfl, xs, hq⟩ | ⟨rfl, o, hk, hc, hd⟩ | ⟨rfl, hk⟩ | ⟨rfl, S, n, hk⟩
    · obtain ⟨its, _, pl, _⟩ := I.list hq
      refine ⟨pl.isList.typeIs, fun a e => ?_⟩
      cases e
      obtain ⟨o, n, e, c, hd, _⟩ := pl
      exact ⟨o, e, hd⟩
    · refine ⟨⟨o, I.kIn p o hk, hc⟩, fun a e => ?_⟩
      cases e
      exact ⟨o, I.kIn _ o hk, hd⟩
    · have z : ∃ o, s.heap.get? p = some o ∧ o.ExactDict := by
        rcases hk with ⟨kvs, hk⟩ | ⟨kvs, hk⟩
        · obtain ⟨_, _, _, _, o, _, _, e, ex, _⟩ := I.hok p _ hk
          exact ⟨o, e, ex⟩
        · obtain ⟨_, _, _, _, o, _, _, e, ex, _⟩ := I.hok p _ hk
          exact ⟨o, e, ex⟩
      obtain ⟨o, e, ex⟩ := z
      refine ⟨⟨o, e, ex.1⟩, fun a e2 => ?_⟩
      cases e2
      exact ⟨o, e, ex.2.1⟩
    · obtain ⟨o, _, _, _, e, ex, _⟩ := I.hok p _ hk
      refine ⟨⟨o, e, ex.1⟩, fun a e2 => ?_⟩
      cases e2
      exact ⟨o, e, ex.2.1⟩
  | _ => exact False.elim ty
def tBM (K : PySem.W.Frag) (T : String) (r : V → List V → Hp → VK → Prop) (to : TE) (t : TA) : TE := fun σ H Q => to σ H fun x H1 => tyV K T x H1 ∧ t σ H1 fun xs H2 => r x xs H2 Q
variable {o e : Expr} {es : List Expr} {to : TE} {t : TA} {name : Str} {apos cpos : Pos} {T id : String} {r : V → List V → Hp → VK → Prop}
theorem pe_bm (pa : PlainAttrs T) (slot : Slot T name id) (hty : typeOf (.builtin id) = pure (.type "method_descriptor")) (hm : MtR X id r) (ho : PE X o to) (ha : PA X (e :: es) t)
    (hbase : attributeBase o name X.env (eval o X.env) = eval o X.env := by rfl)
    (hfew : ((backTo cpos (starEach (e :: es) X.env)).all (fun x => !x.1) && (backToKw cpos (keywordEach [] X.env)).all (fun x => x.1.isSome)
      && decide ((e :: es).length + ([] : List Keyword).length + (if ([] : List Keyword).isEmpty then 0 else 1) < 30)) = true := by rfl)
    (hline : (apos.endLine == cpos.line) = true := by rfl) (hs : starEach (e :: es) X.env = (false, eval e X.env) :: starEach es X.env := by rfl) (hplain : (backTo cpos (starEach es X.env)).any (·.1) = false := by rfl) :
    PE X (.Call (.Attribute o name apos) (e :: es) [] cpos) (tBM X.K T r to t) := by
  intro pins s σ H Q I h
  refine wpAny_Call_method_late hbase hfew hline rfl (thn (ho pins s σ H _ I h) fun v s1 ⟨x, H1, I1, r1, ty, q1⟩ => ?_)
  obtain ⟨h1, h2⟩ := tyV_is I1 r1 ty
  refine ⟨T, id, pa, slot, hty, h1, h2, ?_⟩
  have hA := ha cpos pins s1 σ H1 _ I1 q1
  rw [hs] at hA ⊢
  refine Calls.callWith_builtin (by show (false || (backTo cpos (starEach es X.env)).any (·.1)) = false; rw [hplain] <;> rfl) (Calls.evalArgs_plain ?_)
  exact thn hA fun us s2 ⟨vs, H2, I2, r2, q2⟩ => hm pins s2 σ H2 x vs v us Q I2 r1 r2 q2
/- xs.append(e), list.index on a module's tuple .. are MtR facts of 06m -/
end
end L2

namespace L2
open PySem PySem.Spec PyProof.Rows

def MtM (X : Cx) (id : String) (r : V → List V → Hp → VK → Prop) : Prop :=
  ∀ (pins : List (Addr × Obj)) (s : Shared) (σ : St) (H : Hp) (x : V) (xs : List V) (v : Value) (us : List Value) (Q : VK), Inv X pins σ H s → RelV x v → Vals xs us → r x xs H Q →
    wpAny (model X.prog X.w) X.A (call (.builtin id) (v :: us)) (EP X pins σ Q) X.xe s

theorem Vals.one : ∀ {x : V} {us : List Value}, Vals [x] us → ∃ u, us = [u] ∧ RelV x u
  | _, _, .cons r .nil => ⟨_, rfl, r⟩
theorem Vals.eraseIdx : ∀ {xs : List V} {us : List Value} (i : Nat), Vals xs us → Vals (xs.eraseIdx i) (us.eraseIdx i)
  | _, _, _, .nil => .nil
  | _, _, 0, .cons _ t => t
  | _, _, i + 1, .cons r t => .cons r (Vals.eraseIdx i t)
theorem Vals.reverse {xs : List V} {us : List Value} (h : Vals xs us) : Vals xs.reverse us.reverse := by
  induction h with
  | nil => exact .nil
  | cons r t ih => rw [List.reverse_cons, List.reverse_cons]; exact Vals.append ih (.cons r .nil)
theorem Vals.rep {xs : List V} {us : List Value} (h : Vals xs us) : ∀ k : Nat, Vals (List.replicate k xs).flatten (List.replicate k us).flatten
  | 0 => .nil
  | k + 1 => by
    rw [List.replicate_succ, List.replicate_succ, List.flatten_cons, List.flatten_cons]
    exact Vals.append h (Vals.rep h k)
theorem len_erase {α : Type} : ∀ (l : List α) (i : Nat), (l.eraseIdx i).length ≤ l.length
  | [], _ => Nat.le_refl _
  | _ :: _, 0 => Nat.le_succ _
  | _ :: r, i + 1 => Nat.succ_le_succ (len_erase r i)
theorem foldl_rep (its : List Value) : ∀ (k : Nat) (acc : List Value),
    List.foldl (fun x1 x2 => x1 ++ x2) acc.toArray (List.replicate k its.toArray) = (acc ++ (List.replicate k its).flatten).toArray
  | 0, acc => by simp
  | k + 1, acc => by
    have e : acc.toArray ++ its.toArray = (acc ++ its).toArray := by simp
    have e2 : (acc ++ its) ++ (List.replicate k its).flatten = acc ++ (List.replicate (k + 1) its).flatten := by
      rw [List.replicate_succ, List.flatten_cons, List.append_assoc]
    rw [← e2, ← foldl_rep its k (acc ++ its), ← e, List.replicate_succ, List.foldl_cons]

section
variable {X : Cx} {pins : List (Addr × Obj)} {σ : St} {H : Hp} {s : Shared} {l b : Addr} {xs ys zs : List V}

theorem Inv.lset {its its' : List Value} {n : Nat} {f : Array Value → Array Value} {t' : Nat} (I : Inv X pins σ H s) (hH : H l = some (.lst xs))
    (e : s.heap.get? l = some { cls := .type "list", data := .seq its.toArray n }) (hf : f its.toArray = its'.toArray) (hv : Vals ys its') (hz : ys.length ≤ sizeLine) :
    Inv X pins σ (upd H l (.lst ys)) { s with heap := s.heap.update l (Obj.mapSeq f), toks := t' } := by
  have q := PySem.IsL.update e f
  rw [hf] at q
  refine I.write (x := l) (e := l) (by rw [hH]; exact trivial) (.inl rfl) (fun b' u hb hu => (Heap.get?_update_other s.heap (Obj.mapSeq f) (Ne.symm hb)).trans hu) ⟨_, q⟩ ?_
  exact ⟨hz, its', _, hv, q⟩
theorem Inv.lnew {its : List Value} {t' : Nat} (I : Inv X pins σ H s) (hv : Vals ys its) (hz : ys.length ≤ sizeLine) :
    Inv X pins σ (upd H s.heap.objs.size (.lst ys)) { s with heap := s.heap.push { cls := .type "list", data := .seq its.toArray }, toks := t' } :=
  I.laid (fun _ _ q => Heap.get?_push_of_some _ q) (Nat.le_refl _) ⟨hz, its, 0, hv, Heap.get?_push_size _ rfl⟩
theorem Inv.fresh (I : Inv X pins σ H s) : H s.heap.objs.size = none := I.hok.fresh (Nat.le_refl _)
theorem Inv.lstM (I : Inv X pins σ H s) (hH : H l = some (.lst xs)) : xs.length ≤ sizeLine ∧ ∃ (its : List Value) (n : Nat), Vals xs its ∧ xs.length = its.length ∧ s.heap.get? l = some { cls := .type "list", data := .seq its.toArray n } := by
  obtain ⟨z, its, n, r, e⟩ := I.hok l _ hH
  exact ⟨z, its, n, r, r.length, e⟩

theorem notLongL {n : Nat} (h : n ≤ sizeLine) : Builtin.List.listTooLong n = false := by
  unfold Builtin.List.listTooLong
  exact decide_eq_false (by omega)
end

section
variable {X : Cx}

def rAppend : V → List V → Hp → VK → Prop := fun x vs H Q => ∃ l xs y, x = .ref l ∧ vs = [y] ∧ H l = some (.lst xs) ∧ xs.length < sizeLine ∧ Q .non (upd H l (.lst (xs ++ [y])))
theorem mt_append : MtM X "list.append" rAppend := by
  intro pins s σ H x vs v us Q I rx rv h
  obtain ⟨l, xs, y, rfl, rfl, hH, hz, q⟩ := h
  cases rx
  obtain ⟨u, rfl, ru⟩ := rv.one
  obtain ⟨z, its, n, r, hl, e⟩ := I.lstM hH
  refine call_meets F.slot_list_append ⟨_, e, rfl⟩ F.entry_list_append (F.args_list_append_2 _ _) (PySem.list_append l its.toArray n u (by rw [List.size_toArray]; omega)) ⟨e, ?_⟩
  refine ⟨.non, _, I.lset (its' := its ++ [u]) hH e (by simp) (r.append (.cons ru .nil)) ?_, rfl, q⟩
  rw [List.length_append, List.length_singleton]
  omega

def rPopAt : V → List V → Hp → VK → Prop := fun x vs H Q => ∃ l xs i k y, x = .ref l ∧ vs = [.int i] ∧ H l = some (.lst xs) ∧ -(2 ^ 63) ≤ i ∧ i < 2 ^ 63 ∧ seqIndex? i xs.length = some k ∧ xs[k]? = some y ∧ Q y (upd H l (.lst (xs.eraseIdx k)))
theorem mt_popAt : MtM X "list.pop" rPopAt := by
  intro pins s σ H x vs v us Q I rx rv h
  obtain ⟨l, xs, i, k, y, rfl, rfl, hH, h1, h2, hk, hy, q⟩ := h
  cases rx
  obtain ⟨u, rfl, ru⟩ := rv.one
  obtain ⟨t, rfl⟩ := ru
  obtain ⟨z, its, n, r, hl, e⟩ := I.lstM hH
  obtain ⟨w, hw, rw'⟩ := r.get hy
  refine call_meets F.slot_list_pop ⟨_, e, rfl⟩ F.entry_list_pop (F.args_list_pop_2 _ _)
    (MeetsSeq.list_pop_at l its.toArray n i t k w (fitsIndex_both h1 h2) (by rw [List.size_toArray, ← hl]; exact hk) (by rw [← Array.getElem?_toList]; exact hw) (by rw [List.size_toArray]; omega)) ⟨e, ?_⟩
  refine ⟨y, _, I.lset (its' := its.eraseIdx k) hH e ?_ (r.eraseIdx k) ?_, rw', q⟩
  · show its.toArray.eraseIdxIfInBounds k = (its.eraseIdx k).toArray
    rw [List.eraseIdxIfInBounds_toArray]
  · have := len_erase xs k
    omega

def rCat : R2 := fun x y H Q => ∃ l b xs zs, x = .ref l ∧ y = .ref b ∧ H l = some (.lst xs) ∧ H b = some (.lst zs) ∧ xs.length + zs.length ≤ sizeLine ∧ ∀ p, H p = none → Q (.ref p) (upd H p (.lst (xs ++ zs)))
theorem op_cat : OpR X (binaryOp .Add) rCat := by
  intro pins s σ H x y v u Q I rx ry h
  obtain ⟨l, b, xs, zs, rfl, rfl, hH, hB, hz, q⟩ := h
  cases rx
  cases ry
  obtain ⟨z, its, n, r, hl, e⟩ := I.lstM hH
  obtain ⟨z2, its2, n2, r2, hl2, e2⟩ := I.lstM hB
  refine PySem.P.add_list e e2 ?_ (by rw [List.size_toArray, List.size_toArray]; omega)
  have ea : its.toArray ++ its2.toArray = (its ++ its2).toArray := by simp
  rw [ea]
  exact ⟨.ref _, _, I.lnew (t' := s.toks) (r.append r2) (by rw [List.length_append]; omega), rfl, q _ I.fresh⟩
/-- a list times an int (a negative one is nothing) -/
def rRep : R2 := fun x y H Q => ∃ l k xs, x = .ref l ∧ y = .int k ∧ H l = some (.lst xs) ∧ -(2 ^ 63) ≤ k ∧ k < 2 ^ 63 ∧ xs.length * k.toNat ≤ sizeLine ∧
  ∀ p, H p = none → Q (.ref p) (upd H p (.lst (List.replicate k.toNat xs).flatten))
theorem len_rep {α : Type} (xs : List α) (k : Nat) : (List.replicate k xs).flatten.length = k * xs.length := by
  induction k with
  | zero => simp
  | succ k ih => rw [List.replicate_succ, List.flatten_cons, List.length_append, ih, Nat.succ_mul, Nat.add_comm]
theorem op_rep : OpR X (binaryOp .Mult) rRep := by
  intro pins s σ H x y v u Q I rx ry h
  obtain ⟨l, k, xs, rfl, rfl, hH, h1, h2, hz, q⟩ := h
  cases rx
  obtain ⟨t, rfl⟩ := ry
  obtain ⟨z, its, n, r, hl, e⟩ := I.lstM hH
  have hlen : its.toArray.size * k.toNat ≤ sizeLine := by rw [List.size_toArray, ← hl]; exact hz
  have hcap : ¬ its.toArray.size * k.toNat > (2 ^ 63 - 1) / 8 := by
    have : (sizeLine : Nat) ≤ (2 ^ 63 - 1) / 8 := by decide
    omega
  have hfit : ¬ (!Builtin.List.listFitsIndex k) = true := by
    rw [fitsIndex_both h1 h2]
    exact Bool.false_ne_true
  have hlong : ¬ Builtin.List.listTooLong (its.toArray.size * k.toNat) = true := by
    rw [notLongL hlen]
    exact Bool.false_ne_true
  have hnew : List.foldl (fun x1 x2 => x1 ++ x2) #[] (List.replicate (if its.toArray.isEmpty = true then 0 else k.toNat) its.toArray) = (List.replicate k.toNat its).flatten.toArray := by
    have f0 : ∀ m : Nat, List.foldl (fun x1 x2 => x1 ++ x2) #[] (List.replicate m its.toArray) = (List.replicate m its).flatten.toArray := fun m => by
      have := foldl_rep its m []
      rw [List.nil_append] at this
      exact this
    rw [f0]
    cases its with
    | nil => simp
    | cons a r' => rw [if_neg (by simp)]
  refine wpAny_binaryOp_repeat_ref (T := "list") (U := "int") (by decide) ⟨_, e, rfl⟩ (fun s' => typeIs_int s' k t) noFill_list_mul F.fills_int_mul F.slot_int_rmul repeat_list F.slot_int_index.lookup
    (call_meets F.slot_int_rmul (typeIs_int s k t) F.entry_int_rmul (F.args_int_rmul_2 _ _) (int___rmul___int_list k t l its.toArray n)
      ⟨e, rfl, ⟨_, e, rfl⟩, call_meets F.slot_list_mul ⟨_, e, rfl⟩ F.entry_list_mul (F.args_list_mul_2 _ _) (AutoListH.list___mul___list_int_3 l its.toArray n k t hfit hcap hlong) ⟨e, ?_⟩⟩)
  rw [hnew]
  exact ⟨.ref _, _, I.lnew (t' := s.toks) (r.rep k.toNat) (by rw [len_rep, Nat.mul_comm]; exact hz), rfl, q _ I.fresh⟩

end

section
variable {prog : Program} {w : World} {A : Around} {E : Value → Shared → Prop} {s : Shared}
end

section
variable {X : Cx}
end
end L2

namespace Att
open PySem PySem.W PySem.Calls PyProof.Rows

theorem ints_of_wellAll {P : Params} {h : Heap} : ∀ (ns : List Int) (vs : List Value), WellAll P h vs (ns.map WData.int) → IntsAre vs ns := by
  intro ns
  induction ns with
  | nil =>
    intro vs w
    rw [List.map_nil] at w
    cases w
    exact .nil
  | cons n ns ih =>
    intro vs w
    rw [List.map_cons] at w
    cases w with
    | cons a b =>
      cases a
      exact .cons _ _ (ih _ b)

theorem script_of {l : OpenLaw} {n : Nat} (hn : l.most = some n) {P : Params} {h : Heap} {args : List WData} {vals : List Value}
    (hpre : l.row.toRowW.claim.pre args = true) (hwl : WellAll P h vals args) :
    ∃ a vs ns, vals = [Value.ref a] ∧ args = [WData.list (ns.map WData.int)] ∧ h.get? a = some { cls := .type "list", data := .seq vs.toArray } ∧ IntsAre vs ns ∧ ns.length ≤ n := by
  have hsh : WShape.hasAll [] args [.list .int] = true := (pre_splitW hpre).1
  have hc : l.pre.holds [] { args := args } = true := (pre_splitW hpre).2
  obtain ⟨d, r, rfl, h1, h2⟩ := hasAllW_cons hsh
  obtain rfl := hasAllW_nil h2
  obtain ⟨xs, rfl, h3⟩ := hasW_list h1
  obtain ⟨ns, rfl⟩ := items_int h3
  have hlen : ns.length ≤ n := by
    unfold OpenLaw.pre at hc
    have h4 : (WTm.not (.lt (.lit (.int (n : Int))) (.len (.arg 0)))).holds [] { args := [.list (ns.map .int)] } = true := by
      have h4 := (holds_andW hc).1
      rw [hn] at h4
      exact h4
    have h5 := condW_of h4 (w_not (w_lt w_lit (w_len_list (w_arg rfl))))
    rw [List.length_map] at h5
    refine Nat.le_of_not_lt fun q => ?_
    have q' : (n : Int) < ((ns.length : Nat) : Int) := by omega
    first
      | (rw [decide_eq_true q'] at h5; exact absurd h5 (by decide))
      | (simp at h5; omega)
  cases hwl with
  | cons w1 w2 =>
    cases w2
    cases w1 with
    | list ho hall => exact ⟨_, _, ns, rfl, rfl, ho, ints_of_wellAll ns _ hall, hlen⟩

theorem post_true (l : OpenLaw) (args : List WData) : l.row.toRowW.claim.post args (.bool true) args = true :=
  postW_of (r := l.row.toRowW) (X := (true == true))
    (show WShape.has [] (.bool true) .bool = true by first | rfl | decide | simp [WShape.has, WShape.arms, WShape.armsAll])
    (show (WTm.eq .res (.lit (.bool true))).value [] { args := args, res := some (.bool true), after := args } = some (.bool (true == true)) from w_eq_bool (w_res rfl) w_lit) rfl

/-- the same from a codeAny of the CALL (for a layer whose function contracts speak of calls) -/
theorem attach_call {l : OpenLaw} {n : Nat} {q : Program} {loose : List Str} {XP : (Str → Option Value) → Heap → Prop} {YP : World → Heap → Prop} {d : DefRec}
    (hn : l.most = some n) (hdf : d.params.defaults = [])
    (call : ∀ (w : World) (s₀ s₁ : Shared) (mg mb : Str → Option Value) (fa : Addr) (o : Obj) (pm cd doc : Value) (a : Addr) (vs : List Value) (ns : List Int),
      Ground q loose [] XP w s₀ mg mb s₁.heap → YP w s₁.heap →
      s₁.heap.get? fa = some o → o.data = .func (docDef d.name d.params d.body d.scope pm cd doc) → s₁.heap.CodeRec cd d.name → mg d.name = some (.ref fa) →
      s₁.heap.get? a = some { cls := .type "list", data := .seq vs.toArray } → IntsAre vs ns → ns.length ≤ n → s₁.gens = #[] →
      codeAny (model l.prog w) callerA (.call (.ref fa) ⟨[.ref a], []⟩) (fun r s' => r = .ok (.ret (.bool true)) ∧ OldK s₁.heap s'.heap ∧ s'.os = s₁.os ∧ AllBare s'.gens) s₁) :
    WalkO q loose XP YP l.row.toRowW d [] (fun f vs => PySem.call f vs) := by
  intro w s₀ s₁ mg mb G Y fa o pm cd doc dV kV ho hd hcd hD hmg hg args vals as hpre hlay hrd hwl hlo
  obtain rfl : dV = .none := Dflts.none hD hdf
  obtain rfl : kV = .none := Dflts.noKw hD
  obtain ⟨a, vs, ns, rfl, rfl, hobj, hints, hlen⟩ := script_of hn hpre hwl
  refine enter_call (codeAny_mono (call w s₀ s₁ mg mb fa o pm cd doc a vs ns G Y ho (fd_plain hd) hcd hmg hobj hints hlen hg) fun r s' hq => ?_)
  obtain ⟨rfl, h2, h3, h4⟩ := hq
  exact ⟨.inl ⟨.bool true, .bool true, [], rfl, fun _ => rfl, .bool true, post_true l _, fun _ => ⟨List.Pairwise.nil, fun _ hm => (nomatch hm)⟩⟩, h2, h3, h4⟩

section
variable {prog : Program} {w : World} {A : Around} {E : Value → Shared → Prop} {s : Shared} {K : Frag}

end
end Att

namespace L2
open PySem PySem.Spec PyProof.Rows

theorem vals_ints : ∀ {vs : List Value} {ns : List Int}, IntsAre vs ns → Vals (ns.map V.int) vs
  | _, _, .nil => .nil
  | _, _, .cons n t h => .cons ⟨t, rfl⟩ (vals_ints h)

/-- nothing is tracked but the script, known to the object (or it is an object of the module) -/
def Only (H : Hp) : Prop := ∀ b, H b = none ∨ ∃ o xs, H b = some (.frz o (.lst xs))

/-- THE HEAD: the law's promise, at the heap behind the top. F, the promise of the law's def, may use that base is part of the heap (so K.In base, base.Ns mainGlobals mg stand in Mod) -/
theorem law_call {P : Program} {w : World} {K : PySem.W.Frag} {mg mb : Str → Option Value} {CX : CXT} {k : Nat} {fa a : Addr} {fd : FuncData} {x : Str} {sp : Sp} {s₁ : Shared} {vs : List Value} {ns : List Int}
    (KX : K.In s₁.heap) (hns : s₁.heap.Ns mainGlobals mg) (hb : s₁.heap.Ns builtinsNs mb) (hbb : ∀ x : Str, x ≠ "__name__" → mb x = bootBuiltins x) (hlim : s₁.heap.NoLimit) (hg : s₁.gens = #[])
    (ha : s₁.heap.get? a = some { cls := .type "list", data := .seq vs.toArray }) (hi : IntsAre vs ns) (hl : ns.length ≤ sizeLine) (hr : Room k callerA)
    (F : ∀ base : Heap, K.In base → base.Ns mainGlobals mg → FnOk P w K mg base CX k fa fd [x] sp) (hbind : ∀ (s : Shared) (u : Value), BindsTo s fd ⟨[u], []⟩ [(x, u)])
    (hsp : ∀ H : Hp, Only H → SqL K H a (ns.map V.int) → sp [.ref a] H (fun v _ => v = .bl true) fun _ _ _ => False)
    (hCX : ∀ H e s', CX [] H s₁ (fun _ _ _ => False) e s' → False) :
    codeAny (model P w) callerA (.call (.ref fa) ⟨[.ref a], []⟩) (fun r s' => r = .ok (.ret (.bool true)) ∧ OldK s₁.heap s'.heap ∧ s'.os = s₁.os ∧ AllBare s'.gens) s₁ := by
  have rv := vals_ints hi
  have lenV := hi.length
  -- from an abstract heap in which nothing but the script may be tracked
  have core : ∀ H : Hp, Only H → SqL K H a (ns.map V.int) → HOk P w H s₁.heap → (∀ b, H b ≠ none → b = a) → (H a ≠ none → K.lookup a = none) →
      codeAny (model P w) callerA (.call (.ref fa) ⟨[.ref a], []⟩) (fun r s' => r = .ok (.ret (.bool true)) ∧ OldK s₁.heap s'.heap ∧ s'.os = s₁.os ∧ AllBare s'.gens) s₁ := by
    intro H hO hS hok hA hK
    have base_of : ∀ {b : Addr} {o : Obj}, s₁.heap.get? b = some o → H b = none → (hidT s₁.heap H).get? b = some o := fun e n => hidT_get e n
    have noA : ∀ {b : Addr} {o : Obj} {es : Array DictEntry} {ep : Nat}, s₁.heap.get? b = some o → o.data = .dict es ep → H b = none := fun {b o es ep} e d => by
      cases q : H b with
      | none => rfl
      | some u =>
        have e' : b = a := hA b (by rw [q]; simp)
        subst e'
        rw [ha] at e; cases e
        have d' : Data.seq vs.toArray _ = Data.dict es ep := d
        cases d'
    have nsK : ∀ {b : Addr} {m : Str → Option Value}, s₁.heap.Ns b m → (hidT s₁.heap H).Ns b m := fun {b m} ⟨o, es, ep, e, d, r⟩ => ⟨o, es, ep, base_of e (noA e d), d, r⟩
    have hKb : K.In (hidT s₁.heap H) := fun b o e => base_of (KX b o e) (by
      cases q : H b with
      | none => rfl
      | some u =>
        have e' : b = a := hA b (by rw [q]; simp)
        subst e'
        rw [hK (by rw [q]; simp)] at e; cases e)
    have hM : Mod K mg (hidT s₁.heap H) := ⟨hKb, nsK hns, ⟨mb, nsK hb, hbb⟩, let ⟨mc, h1, h2⟩ := hlim; ⟨mc, nsK h1, h2⟩⟩
    have e0 : Env0 P w K mg (hidT s₁.heap H) callerA [] s₁ H := ⟨rfl, hM, fun b o e => of_hidT e, Nat.le_of_eq (hidT_size _ _), trivial, fun b hb => absurd (show b ∈ ([] : List Addr) from hb) (by simp), hok, .of_eq hg⟩
    refine codeAny_mono ((F _ hKb (nsK hns)).run callerA [] s₁ H ⟨[.ref a], []⟩ [.ref a] [.ref a] _ _ hr e0 (hbind s₁ (.ref a)) (.cons rfl .nil) (hsp H hO hS)) fun r s' h => ?_
    cases r with
    | error e => exact (hCX H e s' h).elim
    | ok fl =>
      cases fl with
      | next => exact False.elim h
      | brk => exact False.elim h
      | cont => exact False.elim h
      | ret u =>
        obtain ⟨v, H', os, bare, un, hok', r', q⟩ := h
        have q' : v = .bl true := q
        subst q'
        obtain rfl : u = Value.bool true := r'
        refine ⟨rfl, OldK.of_keep fun b o e => ?_, os, bare⟩
        cases q : H b with
        | none => exact un.keep b o e q (by intro z; exact absurd (show b ∈ ([] : List Addr) from z) (by simp)) (by simp)
        | some u =>
          rcases hO b with z | ⟨ob, xs, z⟩
          · rw [q] at z; cases z
          · have z2 := un.frzs b ob _ z
            obtain ⟨e1, _⟩ := hok b _ z
            obtain ⟨e2, _⟩ := hok' b _ z2
            rw [e] at e1; cases e1
            exact e2
  cases hk : K.lookup a with
  | some o =>
    -- the script is one of the module's own objects
    have e := KX a o hk
    rw [ha] at e
    cases e
    refine core (fun _ => none) (fun _ => .inl rfl) (.inr ⟨_, vs.toArray, _, hk, rfl, rfl, rfl, by rw [List.size_toArray, lenV]; exact hl, by simpa using rv⟩) (fun b u z => by have z' : (none : Option HO) = some u := z; cases z') (fun b z => absurd rfl z) fun z => absurd rfl z
  | none =>
    refine core (fun b => if b = a then some (.frz { cls := .type "list", data := .seq vs.toArray } (.lst (ns.map V.int))) else none) (fun b => ?_) (.inl (.inr ⟨{ cls := .type "list", data := .seq vs.toArray }, if_pos rfl⟩)) (fun b u z => ?_) (fun b z => ?_) fun _ => hk
    · by_cases hb : b = a
      · exact .inr ⟨_, _, if_pos hb⟩
      · exact .inl (if_neg hb)
    · by_cases hb : b = a
      · have z' := (if_pos hb).symm.trans z
        cases z'
        subst hb
        exact ⟨ha, by rw [List.length_map]; exact hl, vs, _, rv, ha⟩
      · have z' := (if_neg hb).symm.trans z
        cases z'
    · by_cases hb : b = a
      · exact hb
      · exact absurd (if_neg hb) z
end L2

namespace L2
open PySem PySem.Spec PyProof.Rows

/-- the goal that k_head leaves (case hc), from the law's promise. F gives the function object fd (K's own) once, then the promise over every base -/
theorem walk_of {l : PySem.W.OpenLaw} {n k : Nat} {q : Program} {loose : List Str} {XP : (Str → Option Value) → Heap → Prop} {YP : World → Heap → Prop} {d : DefRec} {K : Params → PySem.W.Frag} {CX : World → CXT} {sp : World → Sp} {x : Str}
    (hn : l.most = some n) (hn2 : n ≤ sizeLine) (hdf : d.params.defaults = []) (hr : Room k callerA)
    (hY : ∀ (w : World) (h : Heap), YP w h → (K w.params).In h)
    (F : ∀ (w : World) (mg : Str → Option Value) (fa : Addr) (h : Heap), (K w.params).In h → h.Ns mainGlobals mg → mg d.name = some (.ref fa) →
      ∃ fd : FuncData, (∀ (s : Shared) (u : Value), BindsTo s fd ⟨[u], []⟩ [(x, u)]) ∧
        ∀ base : Heap, (K w.params).In base → base.Ns mainGlobals mg → FnOk l.prog w (K w.params) mg base (CX w) k fa fd [x] (sp w))
    (hsp : ∀ (w : World) (H : Hp) (a : Addr) (ns : List Int), ns.length ≤ n → Only H → SqL (K w.params) H a (ns.map V.int) → sp w [.ref a] H (fun v _ => v = .bl true) fun _ _ _ => False)
    (hCX : ∀ (w : World) (H : Hp) (s : Shared) (e : Value) (s' : Shared), CX w [] H s (fun _ _ _ => False) e s' → False) :
    PySem.W.WalkO q loose XP YP l.row.toRowW d [] (fun f vs => PySem.call f vs) := by
  refine Att.attach_call hn hdf fun w s₀ s₁ mg mb fa o pm cd doc a vs ns G Y ho hd hcd hmg hobj hints hlen hg => ?_
  have KX := hY w _ Y
  obtain ⟨fd, hb, hF⟩ := F w mg fa _ KX G.T.g hmg
  exact law_call KX G.T.g G.T.b G.T.builtins G.T.nolimit hg hobj hints (Nat.le_trans hlen hn2) hr hF hb (fun H hO hS => hsp w H a ns hlen hO hS) fun H e s' => hCX w H s₁ e s'
end L2

/- THE LAST THEOREM (shape; LID, My.* are yours):
   My.Adr: a structure of the addresses that your layer names (classes, functions); My.Txt K t: a structure (Prop) of the equations over K;
   My.txt_mk : {K} {implicit addresses ..} (e1 : nsIn K mainGlobals "law" = some (some (.ref f))) (e2 : K.lookup f = some ⟨oc, od, .func (fnOf "law" "law" params body scope dV kV doc pm an cdv ct), sl⟩) (e3 : codeIn K cdv "law" = true) .. : ∃ t, My.Txt K t

set_option maxRecDepth 100000 in
set_option maxHeartbeats 0 in
theorem PySem.Challenge.cw_LID_holds : PySem.Challenge.rw_LID.Holds := by
  w_on; o_law; k_head; (case hw => w_witness2)
  k_fill
  refine L2.walk_of (l := PySem.Challenge.rw_LID) (n := 63) (k := 40) (x := "script") (CX := fun w => ..) (sp := fun _ => My.sp_law) rfl (by decide) rfl ⟨rfl, by decide, by decide⟩ (fun w h Y => PySem.W.kIn_of Y) ?F ?S ?C
  case F =>
    intro w mg fa h KX G hmg
    have T : ∃ t, My.Txt (L2.KOf KX) t := by
      dsimp only [L2.KOf]                          -- K must stand as «<heap const> w.params» for k_is
      refine' My.txt_mk ?e1 ?e2 ?e3 ..
      (case e1 => PySem.W.k_is)                    -- in the order: a name -> its address -> its object -> its parts
      (case e2 => PySem.W.k_is)
      ..
    obtain ⟨t, T⟩ := T
    have e0 := hmg.symm.trans (PySem.W.mg_of KX G T.law)
    cases e0                                       -- fa is the law's own address
    exact ⟨_, fun s u => .of_eq rfl, fun base kb nb => My.law_fn T kb nb⟩     -- if «.of_eq rfl» comes too early: refine' ⟨_, ?b, fun base kb nb => My.law_fn T kb nb⟩; exact fun s u => .of_eq rfl
  case S => exact fun w H a ns hl hO hS => ..
  case C => exact ..
(the tactic k_is has no namespace: write k_is) -/

namespace L2
open PySem PySem.Spec PyProof.Rows

/-- the j-th statement of a class's body -/
def inClass (s : Stmt) (j : Nat) : Stmt := match s with
  | .ClassDef _ _ _ body _ _ _ _ _ _ _ => body.getD j (.Pass ⟨0, 0, 0, 0⟩)
  | _ => .Pass ⟨0, 0, 0, 0⟩
def defArgs (s : Stmt) : Arguments := match s with
  | .FunctionDef _ a _ _ _ _ _ _ _ _ => a
  | _ => { posonlyargs := [], args := [], vararg := none, kwonlyargs := [], kw_defaults := [], kwarg := none, defaults := [] }
def defBody (s : Stmt) : List Stmt := match s with
  | .FunctionDef _ _ b _ _ _ _ _ _ _ => b
  | _ => []
def defScope (s : Stmt) : Scope := match s with
  | .FunctionDef _ _ _ _ _ _ sc _ _ _ => sc
  | _ => { kind := .function, names := [], isGenerator := false, isCoroutine := false }

abbrev CX0 : CXT := fun _ _ _ _ _ _ => False
abbrev E0 : XK := fun _ _ _ => False
theorem pass0 {X : Cx} : Passes CX0 X E0 := fun _ _ _ _ _ _ _ h => h.elim

structure Fun (K : PySem.W.Frag) (x qual : Str) (st : Stmt) (f : Addr) (fd : FuncData) : Prop where
  ex : ∃ (oc : Value) (od : Option Addr) (kV doc pm : Value) (an : Option Addr) (cdv ct : Value) (osl : Array (Option Value)),
    fd = PySem.W.fnOf x qual (defArgs st) (defBody st) (defScope st) .none kV doc pm an cdv ct ∧ K.lookup f = some ⟨oc, od, .func fd, osl⟩ ∧ PySem.W.codeIn K cdv qual = true
  kp : PySem.W.keepIn K (.ref f) = true
section
variable {P : Program} {w : World} {K : PySem.W.Frag} {mg : Str → Option Value} {base : Heap}
/-- THE RULE for a def: its body as a term of rules, and the reading of that term -/
theorem Fun.ok {x qual : Str} {st : Stmt} {f : Addr} {fd : FuncData} {N ps : List Str} {k : Nat} {sp : Sp} (F : Fun K x qual st f fd) (S : FnScope N ps (defScope st)) (len : ∀ vs H Q E, sp vs H Q E → vs.length = ps.length)
    (hbody : ∀ (cdv : Value) (A : Around) (outer : List Env) (s : Shared) (H : Hp) (vs : List V) (Q : VK) (E : XK), Room k (A.deeper (envOfC qual (defScope st) s.heap.objs.size f cdv)) → sp vs H Q E →
      ∃ t, PSs (cxOf CX0 P w K mg base N qual (defScope st) f cdv A outer s H E).nox (defBody st) t ∧ t { nx := fun _ H' => Q .non H', rt := Q } (start N vs) H) : FnOk P w K mg base CX0 (k + 1) f fd ps sp := by
  obtain ⟨oc, od, kV, doc, pm, an, cdv, ct, osl, rfl, lk, hcd⟩ := F.ex
  refine fn_of lk hcd S len fun A outer s H vs Q E hr hsp => ?_
  obtain ⟨t, h, q⟩ := hbody cdv A outer s H vs Q E hr hsp
  exact ⟨t, h.nox, q⟩
/-- how its arguments bind (no defaults): h is «fun _ _ _ _ _ _ us hl => match us, hl with | [_, _], _ => rfl», one _ a parameter -/
theorem Fun.binds {x qual : Str} {st : Stmt} {f : Addr} {fd : FuncData} {ps : List Str} (F : Fun K x qual st f fd)
    (h : ∀ (kV doc pm : Value) (an : Option Addr) (cdv ct : Value) (us : List Value), us.length = ps.length → bindArgs (PySem.W.fnOf x qual (defArgs st) (defBody st) (defScope st) .none kV doc pm an cdv ct) ⟨us, []⟩ = pure (ps.zip us)) : Binds K fd ps [] := by
  obtain ⟨oc, od, kV, doc, pm, an, cdv, ct, osl, rfl, lk, hcd⟩ := F.ex
  exact .all (h kV doc pm an cdv ct)
theorem fun_mk {x qual : Str} {st : Stmt} {f : Addr} {oc : Value} {od an : Option Addr} {osl : Array (Option Value)} {kV doc pm cdv ct : Value} (l : K.lookup f = some ⟨oc, od, .func (PySem.W.fnOf x qual (defArgs st) (defBody st) (defScope st) .none kV doc pm an cdv ct), osl⟩)
    (c : PySem.W.codeIn K cdv qual = true) (k : PySem.W.keepIn K (.ref f) = true) : Fun K x qual st f (PySem.W.fnOf x qual (defArgs st) (defBody st) (defScope st) .none kV doc pm an cdv ct) := ⟨⟨oc, od, kV, doc, pm, an, cdv, ct, osl, rfl, l, c⟩, k⟩
end
theorem hu_of {A : Around} {k : Nat} (hr : Room k A) : A.units + 1 < cLine := Nat.lt_of_le_of_lt (Nat.add_le_add_left (by decide : 1 ≤ 64) _) hr.units
theorem small1000 {n : Nat} (h : n ≤ 1000) : n < sizeLine := Nat.lt_of_le_of_lt h (by decide)

section
variable {X : Cx}
theorem pv (i : Nat) {x : Str} {pos : Pos} (hN : X.N[i]? = some x := by rfl) (hv : Vis X.env.scope x := by first | exact Or.inl rfl | exact Or.inr (Or.inl rfl) | exact Or.inr (Or.inr rfl)) (hd : (x == ("__debug__" : Str)) = false := by decide)
    (hcd : (x == ("__classdict__" : Str)) = false := by decide) : PE X (.Name x pos) (tVar i) := pe_var hN hv hd hcd
end

theorem iteF {A B : Prop} (h : B) : if false = true then A else B := by
  rw [if_neg Bool.false_ne_true]
  exact h
theorem iteT {A B : Prop} (h : A) : if true = true then A else B := by
  rw [if_pos rfl]
  exact h
/-- all that was tracked is as it was -/
def Same (H H' : Hp) : Prop := ∀ b o, H b = some o → H' b = some o
theorem Same.refl (H : Hp) : Same H H := fun _ _ h => h
theorem Same.trans {H H1 H2 : Hp} (a : Same H H1) (b : Same H1 H2) : Same H H2 := fun c o h => b c o (a c o h)
theorem Same.free {H H' : Hp} (e : Same H H') {l : Addr} (h : H' l = Option.none) : H l = Option.none := by
  cases q : H l with
  | none => rfl
  | some o =>
    rw [e l o q] at h
    cases h
theorem Same.seq {K : PySem.W.Frag} {H H' : Hp} {a : Addr} {xs : List V} (e : Same H H') (h : SqL K H a xs) : SqL K H' a xs := by
  rcases h with (h | ⟨o, h⟩) | h
  · exact .inl (.inl (e _ _ h))
  · exact .inl (.inr ⟨o, e _ _ h⟩)
  · exact .inr h

end L2

set_option Elab.async false
set_option linter.all false
set_option maxRecDepth 100000
namespace L2
open PySem PySem.Spec PyProof.Rows

section
variable {P : Program} {w : World} {H H' : Hp} {B h h1 h2 : Heap} {a : Addr} {o : HO}
theorem ObjOk.there (x : ObjOk P w H h a o) : ∃ ob, h.get? a = some ob := by
  cases o with
  | lst xs => obtain ⟨_, _, _, _, e⟩ := x; exact ⟨_, e⟩
  | tup xs => obtain ⟨_, _, _, ob, e, _⟩ := x; exact ⟨_, e⟩
  | dK kvs => obtain ⟨_, _, _, _, ob, _, _, e, _⟩ := x; exact ⟨_, e⟩
  | dT kvs => obtain ⟨_, _, _, _, ob, _, _, e, _⟩ := x; exact ⟨_, e⟩
  | set S n => obtain ⟨ob, _, _, _, e, _⟩ := x; exact ⟨_, e⟩
  | ins C dx fs => obtain ⟨_, _, _, e, _⟩ := x; exact ⟨_, e⟩
  | own y => exact x
  | xd fs => obtain ⟨_, ⟨_, _, _, e, _⟩, _⟩ := x; exact ⟨_, e⟩
  | rng lo hi => obtain ⟨_, _, _, e⟩ := x; exact ⟨_, e⟩
  | frz ob u => obtain ⟨e, _⟩ := x; exact ⟨_, e⟩
  | tbl ps => exact ⟨_, (show h.get? a = some _ from x)⟩
  | met f y => exact ⟨_, (show h.get? a = some _ from x)⟩
  | ext φ => obtain ⟨_, e, _⟩ := x; exact e

theorem HOk.fly (x : HOk P w H h1) (t : ∀ b u, H b = some u → ∃ ob, B.get? b = some ob) (k1 : B.StaysIn h1) (k2 : B.StaysIn h2) : HOk P w H h2 := fun c u e => by
  refine (x c u e).stay (fun d v hd q => ?_) (fun _ q => q) fun _ _ q => q
  have hin : ∃ ob, B.get? d = some ob := by
    rcases hd with z | z
    · rw [z]; exact t _ _ e
    · exact t _ _ z
  obtain ⟨ob, hb⟩ := hin
  have e1 := k1 d ob hb
  rw [q] at e1
  rw [Option.some.inj e1]
  exact k2 d ob hb

/-- all but the frames at l lies in B -/
structure Over (l : List Env) (H H' : Hp) (h B : Heap) : Prop where
  tr : ∀ b u, H' b = some u → ∃ ob, B.get? b = some ob
  un : ∀ b ob, h.get? b = some ob → H b = none → b ∉ frs l → B.get? b = some ob
  ex : ∀ b ob, h.get? b = some ob → b ∉ frs l → ∃ o2, B.get? b = some o2

theorem Un.fly {l : List Env} (u : Un (frs l) [] H H' h h1) (ov : Over l H H' h B) (nf : ∀ b ∈ frs l, ∀ ob, h.get? b = some ob → ∀ vs, ob.data ≠ .fields vs) (fr : ∀ b ∈ frs l, H b = none)
    (k2 : B.StaysIn h2) (sm : h1.UpToSlots h2) : Un (frs l) [] H H' h h2 where
  keep := fun b ob q n hb _ => k2 b ob (ov.un b ob q n hb)
  slot := fun b ob q n hb hx => by
    obtain ⟨sl, e1⟩ := u.slot b ob q n hb hx
    obtain ⟨sl', e2⟩ := sm b _ e1 (nf b hb ob q)
    exact ⟨sl', e2⟩
  free := u.free
  there := fun b ob q hx => by
    by_cases hb : b ∈ frs l
    · obtain ⟨sl, e1⟩ := u.slot b ob q (fr b hb) hb hx
      obtain ⟨sl', e2⟩ := sm b _ e1 (nf b hb ob q)
      exact ⟨_, e2⟩
    · obtain ⟨o2, e⟩ := ov.ex b ob q hb
      exact ⟨o2, k2 b o2 e⟩
  tups := u.tups
  frzs := u.frzs
  tbls := u.tbls
end

/-- an exception of an own class C at a, the frames l above it -/
def CX1 (P : Program) (w : World) : CXT := fun l H s E e s' =>
  ∃ (a C : Addr) (a0 : Value) (B : Heap) (H' : Hp), e = .ref a ∧ s'.os = s.os ∧ AllBare s'.gens ∧ Un (frs l) [] H H' s.heap s'.heap ∧ HOk P w H' s'.heap ∧
    Heap.FlyingW B l a (.ref C) a0 s'.heap ∧ Over l H H' s.heap B ∧ E (.ref C) none H'

section
variable {X : Cx} {pins : List (Addr × Obj)} {σ : St} {H H' : Hp} {s : Shared} {B : Heap} {E : XK}
theorem Inv.noRec (I : Inv X pins σ H s) : ∀ b ∈ frs X.stack, ∀ ob, s.heap.get? b = some ob → ∀ vs, ob.data ≠ .fields vs := fun b hb ob q => by
  obtain ⟨_, o2, h2, nf⟩ := I.stack.mem hb
  rw [q] at h2
  rw [Option.some.inj h2]
  exact nf
theorem Inv.noRec0 (I : Inv X pins σ H s) : ∀ b ∈ frs X.outer, ∀ ob, X.s₀.heap.get? b = some ob → ∀ vs, ob.data ≠ .fields vs := fun b hb ob q => by
  obtain ⟨_, o2, h2, nf⟩ := I.ok.funs.mem hb
  rw [q] at h2
  rw [Option.some.inj h2]
  exact nf
theorem Inv.notStack (I : Inv X pins σ H s) {b : Addr} {ob : Obj} (q : X.s₀.heap.get? b = some ob) (hb : b ∉ frs X.outer) : b ∉ frs X.stack := fun z => by
  rcases List.mem_cons.mp (I.stkSub b z) with e | e
  · have := Nat.lt_of_lt_of_le (Heap.lt_size q) I.ok.above
    rw [e] at this
    exact Nat.lt_irrefl _ this
  · exact hb e
theorem Over.up (I : Inv X pins σ H s) (hx : X.ex = []) (ov : Over X.stack H H' s.heap B) : Over X.outer X.H₀ H' X.s₀.heap B where
  tr := ov.tr
  un := fun b ob q n hb => by
    have nx : b ∉ X.ex := by rw [hx]; simp
    exact ov.un b ob (I.base.keep b ob q n hb nx) (I.base.free b ob q n nx) (I.notStack q hb)
  ex := fun b ob q hb => by
    have nx : b ∉ X.ex := by rw [hx]; simp
    obtain ⟨o2, e2⟩ := I.base.there b ob q nx
    exact ov.ex b o2 e2 (I.notStack q hb)

/-- a def's body: what leaves it has gone through «leaving» -/
structure Leaves (X : Cx) (E : XK) : Prop where
  ex : X.ex = []
  stk : X.stack = X.env :: X.outer
  fr : X.env.frame = some X.env.locals
  go : ∀ e s', wpAny (model X.prog X.w) X.A (leaving X.env e) (fun _ s'' => CX1 X.prog X.w X.outer X.H₀ X.s₀ E e s'') (fun e' s'' => CX1 X.prog X.w X.outer X.H₀ X.s₀ E e' s'') s' → X.xe e s'
theorem leaves_cx {P : Program} {w : World} {K : PySem.W.Frag} {mg : Str → Option Value} {base : Heap} {N : List Str} {qual : Str} {scope : Scope} {f : Addr} {cd : Value} {A : Around} {outer : List Env} {s : Shared} {H : Hp} {E : XK} :
    Leaves (cxOf (CX1 P w) P w K mg base N qual scope f cd A outer s H E) E := ⟨rfl, rfl, rfl, fun _ _ h => h⟩

theorem pass1 (lv : Leaves X E) : Passes (CX1 X.prog X.w) X E := by
  intro pins σ H s e s' I h
  obtain ⟨a, C, a0, B, H', rfl, ho, hg, u, hok, fl, ov, hE⟩ := h
  refine lv.go _ _ ?_
  have J := I.call' (ch := []) ho u hok hg (fun _ z => nomatch z)
  have ov2 := ov.up I lv.ex
  have fl0 : Heap.FlyingW B (X.env :: X.outer) a (.ref C) a0 s'.heap := lv.stk ▸ fl
  refine wpAny_leaves_onW (by rw [J.ok.frames, lv.stk]) lv.fr fl0 fun h2 fl2 sm => ?_
  have u0 : Un (frs X.outer) [] X.H₀ H' X.s₀.heap s'.heap := by
    have z := J.base
    rw [lv.ex] at z
    exact z
  exact ⟨a, C, a0, B, H', rfl, J.os, hg, u0.fly ov2 J.noRec0 J.ok.frf fl2.1 sm, hok.fly ov.tr fl.1 fl2.1, fl2, ov2, hE⟩
end

/-- an own class of exceptions, below ValueError, without an __init__ -/
abbrev excMro : List Value := [.type "ValueError", .type "Exception", .type "BaseException", .type "object"]
def Exc (K : PySem.W.Frag) (C : Addr) : Prop := PySem.W.excIn K C excMro "ValueError.__new__" = true
theorem exc_obj {K : PySem.W.Frag} {h : Heap} {C : Addr} {bmB : List Value} {newId : String} (X : K.In h) (q : PySem.W.excIn K C bmB newId = true) :
    ∃ bm N nm qn bs hdct sn sub ab col dd k0 k1 k2 k3 k5 mN, h.get? C = some (excClassObj nm qn C N bs bm hdct sn sub ab col dd k0 k1 k2 k3 k5 newId) ∧ h.Ns N mN ∧ mN "__init__" = none ∧ OwnTail h bmB bm := by
  unfold PySem.W.excIn at q
  split at q
  next dd0 cd0 sl0 look0 =>
    split at q
    next C2 bm2 j0 j1 j2 j3 id2 j5 mro2 slots2 =>
      simp only [Bool.and_eq_true, beq_iff_eq, Bool.not_eq_true'] at q
      have q6 := q.2
      have q5 := q.1.2
      have q4 := q.1.1.2
      have q3 := q.1.1.1.2
      have q2 := q.1.1.1.1.2
      have q1 := q.1.1.1.1.1
      subst q1 q2
      obtain ⟨c1, c2, c3, c4, c5, c6, c7, c8, c9, c10, c11⟩ := cd0
      dsimp only at mro2 q3 q5 q6
      subst mro2 q3
      have es : sl0 = #[j0, j1, j2, j3, some (.builtin id2), j5] := by
        obtain ⟨ll⟩ := sl0
        simp only at slots2
        rw [slots2]
      subst es
      exact ⟨bm2, c4, c1, c5, c2, c6, c7, c8, c9, c10, dd0, j0, j1, j2, j3, j5, _, X _ _ look0, Heap.Ns.of_isNs (PySem.W.isNs_of_in X q5), PySem.W.nsMap_none_of_in X q5 q6, PySem.W.tail_of_in X q4⟩
    next => cases q
  next => cases q

def tRaise (C : Addr) (E : XK) (t : TA) : TS := fun _ σ H => t σ H fun vs H1 => vs.length ≤ sizeLine ∧ E (.ref C) none H1
theorem ps_raise {X : Cx} {E : XK} {x : Str} {C : Addr} {e : Expr} {es : List Expr} {t : TA} {np cpos pos : Pos} (lv : Leaves X E) (hc : X.calm = true) (xc : Exc X.K C) (hg : Gl X x) (hm : X.mg x = some (.ref C)) (ha : PA X (e :: es) t)
    (hdb : (x == ("__debug__" : Str)) = false := by decide) (he : starEach (e :: es) X.env = (false, eval e X.env) :: starEach es X.env := by rfl) (hpl : (backTo cpos (starEach es X.env)).any (·.1) = false := by rfl) :
    PS X (.Raise (some (.Call (.Name x np) (e :: es) [] cpos)) none pos) (tRaise C E t) := by
  intro pins s σ H D I h
  obtain ⟨bm, N, nm, qn, bs, hdct, sn, sub, ab, col, dd, k0, k1, k2, k3, k5, mN, hC, hN, hni, T⟩ := exc_obj I.mod.kin xc
  refine wpAny_Raise_call_subT (C := C) (nm := nm) (q := qn) (N := N) (bs := bs) (bm := bm) (hdct := hdct) (sn := sn) (sub := sub) (ab := ab) (col := col) (dd := dd) (k0 := k0) (k1 := k1) (k2 := k2) (k3 := k3) (k5 := k5)
    PySem.F.excBase_ValueError (mN := mN) (T.hasType PySem.F.excBase_ValueError.hasBase) (I.ok.hd hc) (by rw [he]; show (false || (backTo cpos (starEach es X.env)).any (·.1)) = false; rw [hpl]; rfl) hni (ld_glob I hg hm ⟨rfl, ?_⟩ hdb)
  have hh := ha cpos pins s σ H _ I h
  rw [he] at hh ⊢
  refine Calls.evalArgs_plain (thn hh fun us s2 ⟨vs, H2, I2, rv, hl, hE⟩ => ⟨rfl, by rw [← rv.length]; exact hl, I2.bk _ _ hC, hN.keeps I2.bk, T.keeps I2.bk, fun h2 a mk => ?_⟩)
  refine lv.go _ _ ?_
  have hkb : (PySem.W.hideAll s2.heap (frs X.stack)).StaysIn s2.heap := fun b ob q => PySem.W.of_hideAll _ q
  have ff : s2.heap.FunFrames (PySem.W.hideAll s2.heap (frs X.stack)) X.stack := PySem.W.funFrames_hide I2.stack fun en hen b hb => List.mem_filterMap.mpr ⟨en, hen, hb⟩
  have ov0 : Over X.stack H2 H2 s2.heap (PySem.W.hideAll s2.heap (frs X.stack)) := {
    tr := fun b u q => by
      obtain ⟨ob, e1⟩ := (I2.hok b u q).there
      exact ⟨ob, PySem.W.hideAll_get _ e1 fun z => by rw [I2.stkFree b z] at q; cases q⟩
    un := fun b ob q _ hb => PySem.W.hideAll_get _ q hb
    ex := fun b ob q hb => ⟨ob, PySem.W.hideAll_get _ q hb⟩ }
  have ov2 := ov0.up I2 lv.ex
  refine wpAny_leaves_madeW (base := PySem.W.hideAll s2.heap (frs X.stack)) (h := s2.heap) (L := X.env.locals) (by rw [I2.ok.frames, lv.stk]) lv.fr hkb (by rw [lv.stk] at ff ⊢; exact ff) mk fun h3 t3 fl _ _ sm => ?_
  have u0 : Un (frs X.outer) [] X.H₀ H2 X.s₀.heap s2.heap := by
    have z := I2.base
    rw [lv.ex] at z
    exact z
  exact ⟨a, C, _, _, H2, rfl, I2.os, I2.bare, u0.fly ov2 I2.noRec0 I2.ok.frf fl.1 ((Heap.UpToSlots.of_keeps mk.keeps).trans sm), I2.hok.fly ov0.tr hkb fl.1, fl, ov2, hE⟩

section
variable {P : Program} {w : World} {K : PySem.W.Frag} {mg : Str → Option Value} {base : Heap}
theorem Fun.ok1 {x qual : Str} {st : Stmt} {f : Addr} {fd : FuncData} {N ps : List Str} {k : Nat} {sp : Sp} (F : Fun K x qual st f fd) (S : FnScope N ps (defScope st)) (len : ∀ vs H Q E, sp vs H Q E → vs.length = ps.length)
    (hbody : ∀ (cdv : Value) (A : Around) (outer : List Env) (s : Shared) (H : Hp) (vs : List V) (Q : VK) (E : XK), Room k (A.deeper (envOfC qual (defScope st) s.heap.objs.size f cdv)) → sp vs H Q E →
      ∃ t, PSs (cxOf (CX1 P w) P w K mg base N qual (defScope st) f cdv A outer s H E) (defBody st) t ∧ t { nx := fun _ H' => Q .non H', rt := Q } (start N vs) H) : FnOk P w K mg base (CX1 P w) (k + 1) f fd ps sp := by
  obtain ⟨oc, od, kV, doc, pm, an, cdv, ct, osl, rfl, lk, hcd⟩ := F.ex
  exact fn_of lk hcd S len fun A outer s H vs Q E hr hsp => hbody cdv A outer s H vs Q E hr hsp
end

theorem PA.any {X : Cx} {es : List Expr} {t : TA} (h : PA X.nox es t) (pos : Pos) {pins : List (Addr × Obj)} {s : Shared} {σ : St} {H : Hp} {Q : List V → Hp → Prop} {W : Value → Shared → Prop} (I : Inv X pins σ H s) (q : t σ H Q) :
    wpAny (model X.prog X.w) X.A (spliced (backTo pos (starEach es X.env))) (AP X pins σ Q) W s :=
  wpAny_mono (h pos pins s σ H Q (I.wish _) q) (fun _ _ ⟨v, H', J, r, k⟩ => ⟨v, H', J.unwish, r, k⟩) fun _ _ z => z.elim

abbrev TEX := St → Hp → VK → XK → Prop
def PEX (X : Cx) (e : Expr) (t : TEX) : Prop :=
  ∀ (pins : List (Addr × Obj)) (s : Shared) (σ : St) (H : Hp) (Q : VK) (E : XK) (W : Value → Shared → Prop), Inv X pins σ H s → t σ H Q E →
    (∀ H0 s0 y s', Inv X pins σ H0 s0 → CX1 X.prog X.w X.stack H0 s0 E y s' → W y s') → wpAny (model X.prog X.w) X.A (eval e X.env) (EP X pins σ Q) W s
section
variable {X : Cx} {k : Nat} {f C : Addr} {fd : FuncData} {ps : List Str} {sp : Sp} {E : XK} {x m : Str} {p pos apos : Pos} {e o : Expr} {es : List Expr} {ta : TE} {t : TA} {W : Value → Shared → Prop}
theorem run_makeX {pins : List (Addr × Obj)} {σ : St} {H : Hp} {s : Shared} {Q : VK} {us : List Value} {vs : List V} (M : Mk X.K C f) (F : FnOk X.prog X.w X.K X.mg X.base (CX1 X.prog X.w) k f fd ps sp) (hr : Room (k + 1) X.A) (hb : Binds X.K fd ps [])
    (hW : ∀ H0 s0 y s', Inv X pins σ H0 s0 → CX1 X.prog X.w X.stack H0 s0 E y s' → W y s') (I : Inv X pins σ H s) (r : Vals vs us)
    (h : ∀ y dx, H y = none → H dx = none → dx ≠ y → sp (.ref y :: vs) (upd (upd H dx (.own y)) y (.ins C dx [])) (fun v H2 => v = .non ∧ Q (.ref y) H2) E) :
    wpAny (model X.prog X.w) X.A (call (.ref C) us) (EP X pins σ Q) W s := by
  have hq := h (s.heap.objs.size + 1) s.heap.objs.size (I.hok.fresh (Nat.le_succ _)) (I.hok.fresh (Nat.le_refl _)) (Nat.ne_of_lt (Nat.lt_succ_self _))
  have I2 := Inv.made (C := C) I
  have r2 : Vals (V.ref (s.heap.objs.size + 1) :: vs) (Value.ref (s.heap.objs.size + 1) :: us) := .cons rfl r
  have hl : (Value.ref (s.heap.objs.size + 1) :: us ++ []).length = ps.length := by
    have e := r2.length
    rw [F.len _ _ _ _ hq] at e
    rw [List.append_nil]
    exact e.symm
  have hb' := hb _ (Value.ref (s.heap.objs.size + 1) :: us) I2.kIn hl
  rw [List.append_nil] at hb'
  refine wpAny_call (make_map (f := f) I.kIn M.makes M.init (beq_iff_eq.mp M.fn) (codeAny_mono (F.run _ X.stack _ _ ⟨Value.ref (s.heap.objs.size + 1) :: us, []⟩ (Value.ref (s.heap.objs.size + 1) :: us) _ _ E (hr.make C us [])
    (I2.env0.make C us []) hb' r2 hq) fun r3 s3 hq' => ?_))
  cases r3 with
  | error y => exact hW _ _ y s3 I2 hq'
  | ok fl =>
    cases fl with
    | ret u =>
      obtain ⟨v, H', I3, rv, ev, q3⟩ := I2.after hq'
      subst ev
      exact ⟨rv, ⟨V.ref (s.heap.objs.size + 1), H', I3, rfl, q3⟩⟩
    | next => exact False.elim hq'
    | brk => exact False.elim hq'
    | cont => exact False.elim hq'
def tMakeX (C : Addr) (sp : Sp) (t : TA) : TEX := fun σ H Q E => t σ H fun vs H1 => ∀ y dx, H1 y = none → H1 dx = none → dx ≠ y →
  sp (.ref y :: vs) (upd (upd H1 dx (.own y)) y (.ins C dx [])) (fun v H2 => v = .non ∧ Q (.ref y) H2) E
theorem pex_make (M : Mk X.K C f) (F : FnOk X.prog X.w X.K X.mg X.base (CX1 X.prog X.w) k f fd ps sp) (hr : Room (k + 1) X.A) (hg : Gl X x) (hm : X.mg x = some (.ref C)) (hb : Binds X.K fd ps [])
    (ha : PA X.nox (e :: es) t) (hdb : (x == ("__debug__" : Str)) = false := by decide) (he : starEach (e :: es) X.env = (false, eval e X.env) :: starEach es X.env := by rfl) (hpl : (backTo pos (starEach es X.env)).any (·.1) = false := by rfl) :
    PEX X (.Call (.Name x p) (e :: es) [] pos) (tMakeX C sp t) := by
  intro pins s σ H Q E W I h hW
  refine wpAny_Call_Name_kw (ld_glob I hg hm ?_ hdb)
  refine PySem.W.callWith_K (h₀ := X.base) I.ok.mod.kin M.kp (thn (PA.any ha pos I h) fun us s1 ⟨vs, H1, I1, r, q⟩ => ⟨I1.kIn, ?_⟩) he hpl
  exact run_makeX M F hr hb hW I1 r q
end

/-- the statements of a try's body -/
abbrev TSX := Ends → (St → XK) → St → Hp → Prop
def PSX (X : Cx) (sts : List Stmt) (t : TSX) : Prop :=
  ∀ (pins : List (Addr × Obj)) (s : Shared) (σ : St) (H : Hp) (D : Ends) (EX : St → XK) (W : Value → Shared → Prop), Inv X pins σ H s → t D EX σ H →
    (∀ σ' H0 s0 y s', Inv X pins σ' H0 s0 → CX1 X.prog X.w X.stack H0 s0 (EX σ') y s' → W y s') → wpAny (model X.prog X.w) X.A (execs sts X.env) (SP X pins D) W s
section
variable {X : Cx} {e c : Expr} {te : TEX} {tc : TT} {pos pos' : Pos} {i : Nat} {x : Str} {t u : TSX} {a b : List Stmt}
theorem execs_one {M : Model} {A : Around} {env : Env} {st : Stmt} {W : Value → Shared → Prop} {s : Shared} {D : Ends} {pins : List (Addr × Obj)} (h : wpAny M A (exec st env) (SP X pins D) W s) : wpAny M A (execs [st] env) (SP X pins D) W s := by
  refine wpAny_execs_cons (thn h fun f s1 q => ?_)
  cases f with
  | next => exact wpAny_execs_nil q
  | ret v => exact q
  | brk => exact q
  | cont => exact q
def tDropX (te : TEX) : TSX := fun D EX σ H => te σ H (fun _ H1 => D.nx σ H1) (EX σ)
theorem psx_expr (he : PEX X e te) (hs : swapsWith e none pos.line X.env = pure false := by rfl) : PSX X [.Expr e pos] (tDropX te) := by
  intro pins s σ H D EX W I h hW
  exact execs_one (wpAny_Expr_any (thn (he pins s σ H _ (EX σ) W I h fun H0 s0 y s' J q => hW σ H0 s0 y s' J q) fun v s1 ⟨y, H1, I1, r1, q1⟩ => ⟨σ, H1, I1, q1⟩) I.quiet hs)
end

/-- the object at a is an exception of the class C -/
def IsExc (a C : Addr) (h : Heap) : Prop := ∃ ob vs, h.get? a = some ob ∧ ob.cls = .ref C ∧ ob.data = .fields vs
theorem isExc_ok {P : Program} {w : World} {H : Hp} {h : Heap} {a C : Addr} (x : IsExc a C h) : ObjOk P w H h a (.ext (IsExc a C)) := by
  obtain ⟨ob, vs, e1, e2, e3⟩ := id x
  exact ⟨x, ⟨ob, e1⟩, fun h1 h2 ⟨o1, v1, q1, q2, q3⟩ k => ⟨o1, v1, k o1 q1, q2, q3⟩⟩
section
variable {X : Cx} {pins : List (Addr × Obj)} {σ : St} {H : Hp} {s : Shared} {a : Addr} {o : HO}
theorem Inv.track (I : Inv X pins σ H s) (hn : H a = none) (h0 : X.s₀.heap.get? a = none) (hL : a ≠ X.env.locals) (hc : ∀ x c, X.env.cells.lookup x = some c → c ≠ a) (hp : ∀ p ∈ X.pn ++ pins, p.1 ≠ a)
    (ok : ObjOk X.prog X.w (upd H a o) s.heap a o) : Inv X pins σ (upd H a o) s where
  ok := I.ok
  os := I.os
  bare := I.bare
  base := ⟨I.base.keep, I.base.slot, fun b ob q n hx => by rw [upd_ne (fun z => by rw [z, h0] at q; cases q)]; exact I.base.free b ob q n hx, I.base.there,
    fun b xs q => by have z := I.base.tups b xs q; rw [upd_ne (ne_of_none z hn)]; exact z,
    fun b ob u q => by have z := I.base.frzs b ob u q; rw [upd_ne (ne_of_none z hn)]; exact z,
    fun b ps q => by obtain ⟨more, z⟩ := I.base.tbls b ps q; exact ⟨more, by rw [upd_ne (ne_of_none z hn)]; exact z⟩⟩
  loc := I.loc
  cell := I.cell
  free := by rw [upd_ne (Ne.symm hL)]; exact I.free
  freeC := fun x c e => by rw [upd_ne (hc x c e)]; exact I.freeC x c e
  pin := fun p hp2 => by
    obtain ⟨e, n, ne, nf, d⟩ := I.pin p hp2
    exact ⟨e, by rw [upd_ne (hp p hp2)]; exact n, ne, nf, d⟩
  hok := fun b u e => by
    by_cases hb : b = a
    · subst hb; rw [upd_same] at e; cases e; exact ok
    · rw [upd_ne hb] at e
      exact (I.hok b u e).stay (fun c v _ q => q) (fun c q => by rw [upd_ne (ne_of_none q hn)]; exact q) fun c xs q => by rw [upd_ne (ne_of_none q hn)]; exact q
  len := I.len
/-- the same with a handled exception -/
abbrev Cx.marked (X : Cx) (v : Option Value) : Cx := { X with A := X.A.mark v, calm := false, xe := fun _ _ => False }
theorem Inv.marked (I : Inv X pins σ H s) (v : Option Value) : Inv (X.marked v) pins σ H s where
  ok := { mod := I.ok.mod, kind := I.ok.kind, glob := I.ok.glob, blt := I.ok.blt, above := I.ok.above, inj := I.ok.inj, has := I.ok.has, cab := I.ok.cab, hd := (fun z => by cases z), frames := I.ok.frames, stk := I.ok.stk, exf := I.ok.exf, bs := I.ok.bs,
          bsz := I.ok.bsz, noex := I.ok.noex, exfs := I.ok.exfs, funs := I.ok.funs, frf := I.ok.frf }
  os := I.os
  bare := I.bare
  base := I.base
  loc := I.loc
  cell := I.cell
  free := I.free
  freeC := I.freeC
  pin := I.pin
  hok := I.hok
  len := I.len
theorem Inv.unmarked {v : Option Value} (ok : X.Ok) (I : Inv (X.marked v) pins σ H s) : Inv X pins σ H s := ⟨ok, I.os, I.bare, I.base, I.loc, I.cell, I.free, I.freeC, I.pin, I.hok, I.len⟩
/-- a local name is gone -/
theorem Inv.gone {h' : Heap} {t' : Nat} {j : Nat} {n : Str} {m : Str → Option Value} {v : Option Value} (I : Inv X pins σ H s) (hN : X.N.Nodup) (hj : X.N[j]? = some n)
    (hl : ∀ (i : Nat) (x : Str) (v : V), X.N[i]? = some x → σ[i]? = some (some v) → Vis X.env.scope x → ∃ u, RelV v u ∧ Look X.env s.heap m x u)
    (hn : h'.Ns X.env.locals (fun x => if x = n then v else m x)) (sb : Heap.SameBut X.env.locals s.heap h') : Inv X pins (σ.set j none) H { s with heap := h', toks := t' } := by
  have lt : ∀ b ob, X.s₀.heap.get? b = some ob → b ≠ X.env.locals := fun b ob e => Nat.ne_of_lt (Nat.lt_of_lt_of_le (Heap.lt_size e) I.ok.above)
  refine ⟨I.ok, I.os, I.bare, ⟨fun b ob e q hb hx => (sb.2 b (lt b ob e)).trans (I.base.keep b ob e q hb hx), fun b ob e q hb hx => ?_, I.base.free, fun b ob e hx => ?_, I.base.tups, I.base.frzs, I.base.tbls⟩, ⟨_, hn, fun i x u e1 e2 e3 => ?_⟩, fun y c e => ?_, I.free, I.freeC, fun p hp => ?_, fun b u e => ?_, by simpa using I.len⟩
  · obtain ⟨sl, z⟩ := I.base.slot b ob e q hb hx
    exact ⟨sl, (sb.2 b (lt b ob e)).trans z⟩
  · obtain ⟨o2, z⟩ := I.base.there b ob e hx
    exact ⟨o2, (sb.2 b (lt b ob e)).trans z⟩
  · by_cases hi : i = j
    · subst hi
      rw [List.getElem?_set] at e2
      simp only [if_true] at e2
      split at e2 <;> cases e2
    · rw [List.getElem?_set_ne (Ne.symm hi)] at e2
      obtain ⟨w2, r2, q2⟩ := hl i x u e1 e2 e3
      refine ⟨w2, r2, ?_⟩
      have nx : x ≠ n := fun z => hi (nodup_ix hN e1 (z ▸ hj))
      rcases q2 with ⟨k1, k2⟩ | ⟨k1, c, k2, k3⟩
      · exact .inl ⟨k1, by simp [nx, k2]⟩
      · exact .inr ⟨k1, c, k2, k3.sameBut sb (I.cne x c k2)⟩
  · obtain ⟨w2, z⟩ := I.cell y c e
    exact ⟨w2, z.sameBut sb (I.cne y c e)⟩
  · obtain ⟨e, q, ne, nf, d⟩ := I.pin p hp
    exact ⟨(sb.2 p.1 ne).trans e, q, ne, nf, d⟩
  · have nl : ∀ c u2, H c = some u2 → c ≠ X.env.locals := fun c u2 e2 => ne_of_none e2 I.free
    refine (I.hok b u e).stay (fun c w2 hc q => (sb.2 c ?_).trans q) (fun _ q => q) fun _ _ q => q
    rcases hc with z | z
    · rw [z]; exact nl b u e
    · exact nl c _ z
end

def tTry (K : PySem.W.Frag) (CE : Addr) (i j : Nat) (tb : TSX) : TS := fun D σ H =>
  tb D (fun σ' cls _ H' => ∃ C, cls = .ref C ∧ PySem.W.exmOne K (.ref C) (.ref CE) = some true ∧ ∀ a, H' a = none → D.nx ((σ'.set i (some (.ref a))).set j none) (upd H' a (.ext (IsExc a C)))) σ H
theorem ps_try {X : Cx} {bd : List Stmt} {x n kx : Str} {CE : Addr} {i j : Nat} {tb : TSX} {np p1 p2 p3 hpos pos : Pos} (hx0 : X.ex = []) (hst : X.stack = X.env :: X.outer) (hfr : X.env.frame = some X.env.locals)
    (hb : PSX X bd tb) (hg : Gl X x) (hm : X.mg x = some (.ref CE)) (hN : X.N.Nodup) (hi : X.N[i]? = some kx) (hj : X.N[j]? = some n) (hij : i ≠ j)
    (li : X.env.scope.names.lookup kx = some .local) (lj : X.env.scope.names.lookup n = some .local) (hdb : (x == ("__debug__" : Str)) = false := by decide) (hdn : (n == ("__debug__" : Str)) = false := by decide) (hcn : (n == ("__classdict__" : Str)) = false := by decide)
    (hs : swapsWith (.Name n p2) (some (.Name kx p1)) p3.line X.env = pure false := by rfl) :
    PS X (.Try bd [.ExceptHandler (some (.Name x np)) (some n) [.Assign [.Name kx p1] (.Name n p2) p3] hpos] [] [] pos) (tTry X.K CE i j tb) := by
  intro pins s σ H D I h
  refine wpAny_Try_except ?_
  refine wpAny_mono (hb pins s σ H D _ (fun e s1 => wpAny (model X.prog X.w) X.A (noteFrame e X.env) (fun _ s2 => wpAny (model X.prog X.w) X.A (setFlight e none) (fun _ s3 => wpAny (model X.prog X.w) X.A (handleBy e X.env
    [.ExceptHandler (some (.Name x np)) (some n) [.Assign [.Name kx p1] (.Name n p2) p3] hpos]) (SP X pins D) X.xe s3) X.xe s2) X.xe s1) I h fun σ1 H0 s0 y s1 J cx => ?_) (fun f s1 q => ?_) fun e s1 q => q
  · obtain ⟨a, C, a0, B, H1, rfl, ho, hg1, u, hok, fl, ov, C1, eC, hex, kq⟩ := cx
    have eC : C = C1 := Value.ref.inj eC
    subst eC
    have fl0 : Heap.FlyingW B (X.env :: X.outer) a (.ref C) a0 s1.heap := hst ▸ fl
    have hna : H1 a = none := by
      cases z : H1 a with
      | none => rfl
      | some o1 =>
        obtain ⟨ob, e1⟩ := ov.tr a o1 z
        rw [fl.2.1] at e1
        cases e1
    have na : ∀ b ob, s0.heap.get? b = some ob → b ≠ a := fun b ob e1 z => by
      subst z
      by_cases hb2 : b ∈ frs X.stack
      · obtain ⟨oe, vs, T, oT, ts, q1, q2, q3, q4⟩ := fl.2.2.2
        have nf := (fl.2.2.1.mem hb2).2
        obtain ⟨o2, z2, z3⟩ := nf
        rw [q1] at z2
        cases z2
        exact z3 _ q3
      · obtain ⟨o2, e2⟩ := ov.ex b ob e1 hb2
        rw [fl.2.1] at e2
        cases e2
    have inv : ∀ h6 : Heap, B.StaysIn h6 → s1.heap.UpToSlots h6 → Inv X pins σ1 H1 { s1 with heap := h6 } := fun h6 k6 sm =>
      J.call' (s' := { s1 with heap := h6 }) (ch := []) ho (u.fly ov J.noRec J.stkFree k6 sm) (hok.fly ov.tr fl.1 k6) hg1 (fun _ z => nomatch z)
    refine wpAny_looks_onW (L := X.env.locals) (by rw [J.ok.frames, hst]) hfr fl0 fun h4 held4 sm4 => ?_
    refine wpAny_landsW held4 fun h5 fl5 sm5 => ?_
    have sm45 := sm4.trans sm5
    have I5 := inv h5 fl5.1 sm45
    refine wpAny_handleBy_cons (codeAny_handlers_test (ld_glob (X := X.marked (some (.ref a))) (I5.marked _) hg hm ?_ hdb)) (by intro q; cases q)
    obtain ⟨ob, hob, hobc⟩ := fl5.there
    have LT : PySem.W.Looks (model X.prog X.w) h5 (typeOf (.ref a)) (.ref C) := hobc ▸ (PySem.W.Looks.ld hob).andThen .now
    refine PySem.W.Looks.here (PySem.W.exm_one (M := model X.prog X.w) (h := h5) I5.kIn LT hex) ?_
    refine codeAny_handlers_suite_as ?_
    refine lands_againW fl5 fun h6 fl6 sm6 => ?_
    have I6 := inv h6 fl6.1 (sm45.trans sm6)
    obtain ⟨oe, ws, hoe, hoec, hoed, _⟩ := fl6.first
    have I6t : Inv X pins σ1 (upd H1 a (.ext (IsExc a C))) { s1 with heap := h6 } := by
      refine I6.track hna ?_ ?_ ?_ ?_ (isExc_ok ⟨oe, ws, hoe, hoec, hoed⟩)
      · cases z : X.s₀.heap.get? a with
        | none => rfl
        | some o0 =>
          exfalso
          have hxx : a ∉ X.ex := by rw [hx0]; simp
          obtain ⟨o2, e2⟩ := J.base.there a o0 z hxx
          exact na a o2 e2 rfl
      · intro z
        obtain ⟨m, ⟨oL, _, _, hoL, _⟩, _⟩ := J.loc
        exact na _ oL hoL z.symm
      · intro y c e1 z
        obtain ⟨v1, oc, hoc, _⟩ := J.cell y c e1
        exact na c oc hoc z
      · intro p hp z
        exact na p.1 p.2 (J.pin p hp).1 z
    refine store_ok I6t hN hj (.inl lj) (v := .ref a) rfl (fun s7 I7 => ?_) (.inr lj)
    have PSk : PS (X.marked (some (.ref a))) (.Assign [.Name kx p1] (.Name n p2) p3) (tAsg (tVar j) (gName i)) := ps_set (X := X.marked (some (.ref a))) hN hi (.inl li) (pe_var hj (.inl lj) hdn hcn) hs (.inr li)
    have vj : ((σ1.set j (some (V.ref a))))[j]? = some (some (.ref a)) := by
      rw [List.getElem?_set_self]
      rw [I6.len]
      exact (List.getElem?_eq_some_iff.mp hj).1
    refine wpAny_mono ((pss_one PSk) pins s7 _ _ { nx := fun σ2 H2 => σ2 = (σ1.set j (some (.ref a))).set i (some (.ref a)) ∧ H2 = upd H1 a (.ext (IsExc a C)), rt := fun _ _ => False } (I7.marked _) ⟨.ref a, vj, rfl, rfl⟩) (fun f s8 q => ?_) fun _ _ z => z.elim
    cases f with
    | next =>
      obtain ⟨σ2, H2, J8, e8, e9⟩ := q
      subst e8 e9
      have I8 : Inv X pins _ _ s8 := J8.unmarked I.ok
      obtain ⟨m, hn8, hl8⟩ := id I8.loc
      have hp8 : (X.env.scope.kind == .class || (X.env.scope.kind == .module && X.env.locals != X.env.globals)) = false := by rw [I.ok.kind]; rfl
      refine wpAny_nameGoes_keeps lj hn8 hp8 fun h9 v9 hn9 sb9 => ?_
      have I9 := I8.gone (t' := s8.toks + 1) hN hj hl8 hn9 sb9
      refine ⟨_, _, I9, ?_⟩
      have es : (((σ1.set j (some (V.ref a))).set i (some (.ref a))).set j none) = (σ1.set i (some (.ref a))).set j none := by
        rw [List.set_comm _ _ hij.symm, List.set_set]
      rw [es]
      exact kq a hna
    | ret v => exact (let ⟨_, _, _, _, _, z⟩ := q; z.elim)
    | brk => exact (let ⟨_, _, _, z⟩ := q; z.elim)
    | cont => exact (let ⟨_, _, _, z⟩ := q; z.elim)
  · cases f with
    | next => exact wpAny_execs_nil q
    | ret v => exact q
    | brk => exact q
    | cont => exact q
end L2

set_option Elab.async false
set_option linter.all false
set_option maxRecDepth 100000
namespace L2
open PySem PySem.Spec PyProof.Rows

structure FnAt (K : PySem.W.Frag) (mg : Str → Option Value) (x : Str) (st : Stmt) (ps : List Str) : Prop where
  ex : ∃ f fd, mg x = some (.ref f) ∧ Fun K x x st f fd ∧ Binds K fd ps []
structure MtAt (K : PySem.W.Frag) (C : Addr) (m qual : Str) (st : Stmt) (ps : List Str) : Prop where
  ex : ∃ f fd, Meth K C m f ∧ Fun K m qual st f fd ∧ Binds K fd ps []
structure InAt (K : PySem.W.Frag) (C : Addr) (qual : Str) (st : Stmt) (ps : List Str) : Prop where
  ex : ∃ f fd, Mk K C f ∧ Fun K "__init__" qual st f fd ∧ Binds K fd ps []
/-- a def's promise, by name -/
def Has (P : Program) (w : World) (K : PySem.W.Frag) (mg : Str → Option Value) (base : Heap) (CX : CXT) (k : Nat) (x : Str) (ps : List Str) (sp : Sp) : Prop :=
  ∃ f fd, mg x = some (.ref f) ∧ PySem.W.keepIn K (.ref f) = true ∧ Binds K fd ps [] ∧ FnOk P w K mg base CX k f fd ps sp
def HasM (P : Program) (w : World) (K : PySem.W.Frag) (mg : Str → Option Value) (base : Heap) (CX : CXT) (k : Nat) (C : Addr) (m : Str) (ps : List Str) (sp : Sp) : Prop :=
  ∃ f fd, Meth K C m f ∧ Binds K fd ps [] ∧ FnOk P w K mg base CX k f fd ps sp
def HasI (P : Program) (w : World) (K : PySem.W.Frag) (mg : Str → Option Value) (base : Heap) (CX : CXT) (k : Nat) (C : Addr) (ps : List Str) (sp : Sp) : Prop :=
  ∃ f fd, Mk K C f ∧ Binds K fd ps [] ∧ FnOk P w K mg base CX k f fd ps sp
theorem FnAt.has {P : Program} {w : World} {K : PySem.W.Frag} {mg : Str → Option Value} {base : Heap} {CX : CXT} {k : Nat} {x : Str} {st : Stmt} {ps : List Str} {sp : Sp} (F : FnAt K mg x st ps)
    (h : ∀ f fd, Fun K x x st f fd → FnOk P w K mg base CX k f fd ps sp) : Has P w K mg base CX k x ps sp := by
  obtain ⟨f, fd, a, b, c⟩ := F.ex
  exact ⟨f, fd, a, b.kp, c, h f fd b⟩
theorem MtAt.has {P : Program} {w : World} {K : PySem.W.Frag} {mg : Str → Option Value} {base : Heap} {CX : CXT} {k : Nat} {C : Addr} {m qual : Str} {st : Stmt} {ps : List Str} {sp : Sp} (F : MtAt K C m qual st ps)
    (h : ∀ f fd, Fun K m qual st f fd → FnOk P w K mg base CX k f fd ps sp) : HasM P w K mg base CX k C m ps sp := by
  obtain ⟨f, fd, a, b, c⟩ := F.ex
  exact ⟨f, fd, a, c, h f fd b⟩
theorem InAt.has {P : Program} {w : World} {K : PySem.W.Frag} {mg : Str → Option Value} {base : Heap} {CX : CXT} {k : Nat} {C : Addr} {qual : Str} {st : Stmt} {ps : List Str} {sp : Sp} (F : InAt K C qual st ps)
    (h : ∀ f fd, Fun K "__init__" qual st f fd → FnOk P w K mg base CX k f fd ps sp) : HasI P w K mg base CX k C ps sp := by
  obtain ⟨f, fd, a, b, c⟩ := F.ex
  exact ⟨f, fd, a, c, h f fd b⟩

section
variable {X : Cx} {k k' : Nat} {C : Addr} {ps : List Str} {sp : Sp} {E : XK} {x m : Str} {p pos apos : Pos} {e o : Expr} {es : List Expr} {ta : TE} {t : TA}
theorem pe_callH (G : Has X.prog X.w X.K X.mg X.base CX0 k x ps sp) (hr : Room k' X.A) (ha : PA X (e :: es) t) (hk : k ≤ k' := by decide) (hg : Gl X x := by rfl)
    (hdb : (x == ("__debug__" : Str)) = false := by decide) (he : starEach (e :: es) X.env = (false, eval e X.env) :: starEach es X.env := by rfl) (hpl : (backTo pos (starEach es X.env)).any (·.1) = false := by rfl) :
    PE X (.Call (.Name x p) (e :: es) [] pos) (tCall sp [] E0 t) := by
  obtain ⟨f, fd, a, b, c, d⟩ := G
  exact pe_call d (hr.mono hk) hg a b c .nil pass0 ha hdb he hpl
theorem pe_callH1 (G : Has X.prog X.w X.K X.mg X.base (CX1 X.prog X.w) k x ps sp) (lv : Leaves X E) (hr : Room k' X.A) (ha : PA X (e :: es) t) (hk : k ≤ k' := by decide) (hg : Gl X x := by rfl)
    (hdb : (x == ("__debug__" : Str)) = false := by decide) (he : starEach (e :: es) X.env = (false, eval e X.env) :: starEach es X.env := by rfl) (hpl : (backTo pos (starEach es X.env)).any (·.1) = false := by rfl) :
    PE X (.Call (.Name x p) (e :: es) [] pos) (tCall sp [] E t) := by
  obtain ⟨f, fd, a, b, c, d⟩ := G
  exact pe_call d (hr.mono hk) hg a b c .nil (pass1 lv) ha hdb he hpl
theorem pe_makeH (G : HasI X.prog X.w X.K X.mg X.base CX0 k C ps sp) (hm : X.mg x = some (.ref C)) (hr : Room k' X.A) (ha : PA X (e :: es) t) (hk : k + 1 ≤ k' := by decide) (hg : Gl X x := by rfl)
    (hdb : (x == ("__debug__" : Str)) = false := by decide) (he : starEach (e :: es) X.env = (false, eval e X.env) :: starEach es X.env := by rfl) (hpl : (backTo pos (starEach es X.env)).any (·.1) = false := by rfl) :
    PE X (.Call (.Name x p) (e :: es) [] pos) (tMake C sp [] E0 t) := by
  obtain ⟨f, fd, a, c, d⟩ := G
  exact pe_make a d (hr.mono hk) hg hm c .nil pass0 ha hdb he hpl
theorem pe_methH {pl : Sem Bool} (ho : PE X o ta) (cl : Cls X.K C) (G : HasM X.prog X.w X.K X.mg X.base CX0 k C m ps sp) (hr : Room k' X.A) (ha : PA X (e :: es) t) (hk : k ≤ k' := by decide)
    (hst : starEach (e :: es) X.env = (false, eval e X.env) :: starEach es X.env := by rfl) (hpl : (backTo pos (starEach es X.env)).any (·.1) = false := by rfl)
    (ht : eval (.Call (.Attribute o m apos) (e :: es) [] pos) X.env = (do
      let ov ← eval o X.env
      standAt apos.atName
      let (f, first) ← holding [ov] (getMethod ov m pl)
      callWith pos f first (backTo pos (starEach (e :: es) X.env)) (backToKw pos (keywordEach [] X.env))) := by rfl) :
    PE X (.Call (.Attribute o m apos) (e :: es) [] pos) (tMeth C m sp [] E0 ta t) := by
  obtain ⟨f, fd, a, c, d⟩ := G
  exact pe_meth ho cl a d (hr.mono hk) c .nil pass0 ha hst hpl ht
theorem pex_makeH (G : HasI X.prog X.w X.K X.mg X.base (CX1 X.prog X.w) k C ps sp) (hm : X.mg x = some (.ref C)) (hr : Room k' X.A) (ha : PA X.nox (e :: es) t) (hk : k + 1 ≤ k' := by decide) (hg : Gl X x := by rfl)
    (hdb : (x == ("__debug__" : Str)) = false := by decide) (he : starEach (e :: es) X.env = (false, eval e X.env) :: starEach es X.env := by rfl) (hpl : (backTo pos (starEach es X.env)).any (·.1) = false := by rfl) :
    PEX X (.Call (.Name x p) (e :: es) [] pos) (tMakeX C sp t) := by
  obtain ⟨f, fd, a, c, d⟩ := G
  exact pex_make a d (hr.mono hk) hg hm c ha hdb he hpl
/-- a module's int, a module's object -/
theorem pe_gI {i : Int} (hg : Gl X x) (h : ∃ u, X.mg x = some (.int i u)) (hd : (x == ("__debug__" : Str)) = false := by decide) : PE X (.Name x pos) (tC (.int i)) := by
  obtain ⟨u, hu⟩ := h
  exact pe_glob hg hu ⟨u, rfl⟩ hd
theorem pe_gR {a : Addr} (hg : Gl X x) (h : X.mg x = some (.ref a)) (hd : (x == ("__debug__" : Str)) = false := by decide) : PE X (.Name x pos) (tC (.ref a)) := pe_glob hg h rfl hd
end

def clsV : V → Option Value
  | .ty n => some (.type n)
  | .ref a => some (.ref a)
  | _ => none
theorem clsV_rel {c : V} {u cv : Value} (r : RelV c u) (h : clsV c = some cv) : u = cv := by
  cases c <;> simp [clsV] at h
  · subst h; exact r
  · subst h; exact r
section
variable {X : Cx}
theorem call_isinst : CallR X (.builtin "isinstance") (fun xs H Q => ∃ x c cv t b, xs = [x, c] ∧ clsV c = some cv ∧ TyOf X.K H x t ∧ PySem.W.kitOne X.K t cv = some b ∧ Q (.bl b) H) := by
  intro pins s σ H xs us Q I r h
  obtain ⟨x, c, cv, t, b, rfl, hc, ty, e, q⟩ := h
  obtain ⟨u, v, rfl, ru, rv⟩ := vals2 r
  rw [clsV_rel rv hc]
  exact isinst_ok I ru ty e fun tk => ⟨.bl b, H, I.tok tk, rfl, q⟩
end

section
variable {X : Cx}
/-- two lists: of unlike lengths, or of the very same items -/
def rEqL (K : PySem.W.Frag) : R2 := fun x y H Q => ∃ a b xs ys, x = .ref a ∧ y = .ref b ∧ SqL K H a xs ∧ SqL K H b ys ∧ ((xs.length ≠ ys.length ∧ Q (.bl false) H) ∨ (xs = ys ∧ (∀ v ∈ xs, ∃ p, v = .ref p) ∧ Q (.bl true) H))
theorem op_eqL (hu : X.A.units + 1 < cLine) : OpR X (compareOp .Eq) (rEqL X.K) := by
  intro pins s σ H x y v u Q I rx ry h
  obtain ⟨a, b, xs, ys, rfl, rfl, hx, hy, h⟩ := h
  obtain rfl : v = Value.ref a := rx
  obtain rfl : u = Value.ref b := ry
  obtain ⟨its, rv, p, hz⟩ := I.list hx
  obtain ⟨its2, rv2, p2, hz2⟩ := I.list hy
  rcases h with ⟨hne, q⟩ | ⟨rfl, hr, q⟩
  · refine SeqAt.eq_list_lengthsAt p.isList p2.isList ?_ (Nat.lt_of_succ_lt hu) ⟨.bl false, H, I, rfl, q⟩
    have e1 := rv.length
    have e2 := rv2.length
    simp only [List.size_toArray, bne_iff_ne, ne_eq]
    omega
  · have same : its = its2 := by
      clear hx hy p p2 hz hz2 q
      induction xs generalizing its its2 with
      | nil => cases rv; cases rv2; rfl
      | cons z zs ih =>
        cases rv with
        | cons r1 t1 =>
          cases rv2 with
          | cons r2 t2 =>
            obtain ⟨pz, rfl⟩ := hr z (List.mem_cons_self ..)
            rw [show _ = Value.ref pz from r1, show _ = Value.ref pz from r2, ih _ t1 _ t2 (fun v hv => hr v (List.mem_cons_of_mem _ hv))]
    subst same
    refine SeqAt.eq_listAt (e := fun _ => true) p.isList p2.isList rfl (Nat.lt_of_succ_lt hu) (fun j h1 h2 => SeqAt.EqAt.same _) ?_
    have e1 : (List.range its.toArray.size).all (fun _ => true) = true := by simp
    rw [e1]
    exact ⟨.bl true, H, I, rfl, q⟩
end
end L2

set_option Elab.async false
set_option linter.all false
set_option maxRecDepth 100000
namespace L2
open PySem PySem.Spec PyProof.Rows

abbrev TF := Str → St → Hp → VK → Prop
def PF (X : Cx) (es : List Expr) (t : TF) : Prop :=
  ∀ (out : Str) (pins : List (Addr × Obj)) (s : Shared) (σ : St) (H : Hp) (Q : VK), Inv X pins σ H s → t out σ H Q → wpAny (model X.prog X.w) X.A (joinParts out (evalEach es X.env)) (EP X pins σ Q) X.xe s
section
variable {X : Cx} {e e2 : Expr} {es : List Expr} {te : TE} {t : TF} {y : Str} {j : Nat} {p p2 pos : Pos}
def fNil : TF := fun out _ H Q => out.length ≤ sizeLine ∧ Q (.str out) H
def fStr (y : Str) (t : TF) : TF := fun out σ H Q => (out ++ y).length ≤ sizeLine ∧ t (out ++ y) σ H Q
def fInt (te : TE) (t : TF) : TF := fun out σ H Q => te σ H fun x H1 => ∃ i : Int, x = .int i ∧ i.natAbs.log2 < 1920 ∧ (out ++ (toString i : Str)).length ≤ sizeLine ∧ t (out ++ (toString i : Str)) σ H1 Q
theorem pf_nil : PF X [] fNil := fun out pins s σ H Q I h => joinParts_nil ⟨.str out, H, I.tok _, ⟨_, rfl⟩, h.2⟩ h.1
theorem pf_str (h : PF X es t) : PF X (.Constant (.str y) j p :: es) (fStr y t) := by
  intro out pins s σ H Q I q
  refine joinParts_cons (Calls.Constant_str ?_)
  exact ⟨q.1, h (out ++ y) pins _ σ H Q (I.tok _) q.2⟩
theorem pf_int (he : PE X e te) (h : PF X es t) : PF X (.FormattedValue e (-1) none p :: es) (fInt te t) := by
  intro out pins s σ H Q I q
  refine joinParts_cons (FormattedValue_plain (thn (he pins s σ H _ I q) fun v s1 ⟨x, H1, I1, r1, i, ex, hl, hz, q1⟩ => ?_))
  subst ex
  obtain ⟨t1, rfl⟩ := r1
  exact formatField_int_small hl ⟨hz, h _ pins _ σ H1 Q (I1.tok _) q1⟩
def tFs (t : TF) : TE := fun σ H Q => t Str.empty σ H Q
theorem pe_fstr (h : PF X (e :: e2 :: es) t) : PE X (.JoinedStr (e :: e2 :: es) pos) (tFs t) := fun pins s σ H Q I q => JoinedStr_many (h Str.empty pins s σ H Q I q)
end

def Ite (K : PySem.W.Frag) (a : Addr) : It :=
  ⟨fun i H => ∃ xs x, SqL K H a xs ∧ xs[i]? = some x, fun i H v H' => ∃ t x, H t = none ∧ v = .ref t ∧ H' = upd H t (.tup [.int i, x]) ∧ ∀ xs, SqL K H a xs → xs[i]? = some x, fun i H => ∃ xs, SqL K H a xs ∧ xs.length ≤ i⟩
theorem turn_enum {P : Program} {w : World} {K : PySem.W.Frag} {elts : List Expr} {x1 : Nat} {tp : Pos} (a e it : Addr) (hne : e ≠ it) :
    Turn P w K (.Tuple elts x1 tp) (Ite K a) [e, it] e (fun i h => ∃ old, IsEnum h e it i old ∧ h.IsListIter it a i) where
  mem := by simp
  obj := fun i h st b hb => by
    obtain ⟨old, h1, h2⟩ := st
    have e0 : b = e ∨ b = it := by simpa using hb
    rcases e0 with rfl | rfl
    · exact ⟨_, h1, fun v z => nomatch z⟩
    · obtain ⟨o, q1, q2, q3⟩ := h2
      exact ⟨o, q1, fun v z => by rw [q3] at z; cases z⟩
  keep := fun i h h' ⟨old, h1, h2⟩ k => ⟨old, k e (by simp) _ h1, h2.at fun o q => k it (by simp) o q⟩
  item := by
    intro X hP hw hK hc i pins s σ H E I hf st hg
    subst hP hw hK
    obtain ⟨old, h1, h2⟩ := st
    obtain ⟨xs, x, hq, hx⟩ := hg
    obtain ⟨its, rv, p, hz⟩ := I.list hq
    obtain ⟨u, hu, ru⟩ := rv.get hx
    obtain ⟨f0, f1, f2, f3, f4, f5⟩ := hf e (by simp)
    obtain ⟨g0, g1, g2, g3, g4, g5⟩ := hf it (by simp)
    refine wpAny_pyNext_enum_item h1 h2 p.isList (x := u) (by simpa using hu) hne fun h' he hit ht hsz hk => ?_
    refine ⟨.ref s.heap.objs.size, rfl, ?_⟩
    refine wpAny_letOwnedTupleGo_enum (s := { s with heap := h', toks := s.toks + 1 }) he fun h3 he3 hs3 => ?_
    replace hs3 : Heap.SameBut e h' h3 := hs3
    have lt_e : e < s.heap.objs.size := Heap.lt_size h1
    have lt_it : it < s.heap.objs.size := by obtain ⟨o, q1, _⟩ := h2; exact Heap.lt_size q1
    have kk : ∀ b o, b ≠ e → b ≠ it → s.heap.get? b = some o → h3.get? b = some o := fun b o n1 n2 q => (hs3.2 b n1).trans (hk b o n1 n2 q)
    have ht3 : h3.get? s.heap.objs.size = some { cls := .type "tuple", data := .seq #[.int i s.toks, u] } := (hs3.2 _ (Nat.ne_of_gt lt_e)).trans ht
    have hn : H s.heap.objs.size = none := I.hok.fresh (Nat.le_refl _)
    have neL : s.heap.objs.size ≠ X.env.locals := Nat.ne_of_gt I.lt
    have J : Inv X pins σ (upd H s.heap.objs.size (.tup [.int i, x])) { s with heap := h3, toks := s.toks + 1 } := by
      refine I.step (g' := s.gens) (d' := s.drawn) (ch := [e, it]) (fun b hb => ?_) (fun b o _ _ hc2 q n => kk b o (fun z => hc2 (by simp [z])) (fun z => hc2 (by simp [z])) q)
        (fun b o _ _ hc2 q n => ⟨o.slots, kk b o (fun z => hc2 (by simp [z])) (fun z => hc2 (by simp [z])) q⟩) (fun b o hc2 q n => ?_) (fun b o hc2 q => ⟨o, kk b o (fun z => hc2 (by simp [z])) (fun z => hc2 (by simp [z])) q⟩)
        (fun b ys q => by rw [upd_ne (ne_of_none q hn)]; exact q) (fun b o u2 q => by rw [upd_ne (ne_of_none q hn)]; exact q) (fun b ps q => ⟨#[], by rw [upd_ne (ne_of_none q hn), q]; simp⟩) (fun m hm => ?_) (fun b u2 q => ?_) I.bare
      · have e0 : b = e ∨ b = it := by simpa using hb
        rcases e0 with rfl | rfl
        · exact ⟨f3, f1, f4, f5⟩
        · exact ⟨g3, g1, g4, g5⟩
      · rw [upd_ne (Nat.ne_of_lt (Heap.lt_size q))]; exact n
      · obtain ⟨o, es, ep, ho, r⟩ := hm
        exact ⟨o, es, ep, kk _ o (Ne.symm f1) (Ne.symm g1) ho, r⟩
      · by_cases hb : b = s.heap.objs.size
        · subst hb
          rw [upd_same] at q
          cases q
          refine ⟨by show 2 ≤ sizeLine; decide, [.int i s.toks, u], .cons ⟨_, rfl⟩ (.cons ru .nil), ?_⟩
          exact ⟨_, ht3, rfl, _, rfl⟩
        · rw [upd_ne hb] at q
          have n1 : ∀ c u3, H c = some u3 → c ≠ e := fun c u3 z => ne_of_none z f0
          have n2 : ∀ c u3, H c = some u3 → c ≠ it := fun c u3 z => ne_of_none z g0
          refine (I.hok b u2 q).stay (fun c v hc3 r => ?_) (fun c r => by rw [upd_ne (ne_of_none r hn)]; exact r) fun c ys r => by rw [upd_ne (ne_of_none r hn)]; exact r
          rcases hc3 with z | z
          · rw [z] at r ⊢; exact kk b v (n1 b u2 q) (n2 b u2 q) r
          · exact kk c v (n1 c _ z) (n2 c _ z) r
    refine ⟨.ref s.heap.objs.size, _, J, rfl, ⟨s.heap.objs.size, x, hn, rfl, rfl, fun ys hy => by rw [I.list_inj hy hq]; exact hx⟩, ⟨u, ?_, ?_⟩, fun b hb => ?_⟩
    · have e1 : ((i + 1 : Nat) : Int) = (i : Int) + 1 := by push_cast; rfl
      rw [e1]
      exact he3
    · exact hit.at fun o q => (hs3.2 it (Ne.symm hne)).trans q
    · have e0 : b = e ∨ b = it := by simpa using hb
      rcases e0 with rfl | rfl
      · rw [upd_ne (Nat.ne_of_lt lt_e)]; exact f0
      · rw [upd_ne (Nat.ne_of_lt lt_it)]; exact g0
  done := by
    intro X hP hw hK hc i pins s σ H E I hf st hg
    subst hP hw hK
    obtain ⟨old, h1, h2⟩ := st
    obtain ⟨xs, hq, hx⟩ := hg
    obtain ⟨its, rv, p, hz⟩ := I.list hq
    obtain ⟨g0, g1, g2, g3, g4, g5⟩ := hf it (by simp)
    have hl := rv.length
    exact wpAny_pyNext_enum_end (I.ok.hd hc) h1 h2 p.isList (by simp; omega) fun h' eb => ⟨rfl, I.turned (t' := s.toks) (fun b o hb q => eb b o hb q) g0 g1 g3 g4 g5⟩
  self := fun _ _ _ _ _ ⟨_, h1, _⟩ h => wpAny_pyIter_enum h1 h
section
variable {X : Cx} {elts : List Expr} {x1 : Nat} {tp : Pos}
def iEnum (K : PySem.W.Frag) (ta : TA) : TI := fun σ H R => ta σ H fun vs H1 => ∃ a, vs = [.ref a] ∧ (∃ xs, SqL K H1 a xs) ∧ R (Ite K a) H1
theorem pi_enum {l : Expr} {ta : TA} {p pos : Pos} (hg : Gl X "enumerate") (hm : X.mg "enumerate" = none) (ha : PA X [l] ta) (hs : starEach [l] X.env = [(false, eval l X.env)] := by rfl) :
    PI X (.Tuple elts x1 tp) (.Call (.Name "enumerate" p) [l] [] pos) (iEnum X.K ta) := by
  intro pins s σ H R I h
  refine Call_ (ld_blt I hg hm boot_enumerate (PyProof.Rows.callWith_type1 (thn (ha pos pins s σ H _ I h) fun us s1 ⟨vs, H1, I1, r1, q1⟩ => ?_) hs rfl))
  obtain ⟨a, rfl, ⟨xs, hq⟩, q⟩ := q1
  obtain ⟨u, rfl, ru⟩ := vals1 r1
  obtain rfl : u = Value.ref a := ru
  obtain ⟨its, rv, pl, hz⟩ := I1.list hq
  refine call_enumerate_list pl.isList fun h' he hit hsz hk => ?_
  refine wpAny_pyIter_enum he ?_
  have J : Inv X pins σ H1 { s1 with heap := h' } := I1.kept (t' := s1.toks) hk
  refine ⟨s1.heap.objs.size + 1, [s1.heap.objs.size + 1, s1.heap.objs.size], _, _, H1, rfl, J, turn_enum a _ _ (Nat.ne_of_gt (Nat.lt_succ_self _)), ⟨_, he, hit⟩, fun b hb => ?_, q⟩
  have e0 : b = s1.heap.objs.size + 1 ∨ b = s1.heap.objs.size := by simpa using hb
  rcases e0 with rfl | rfl
  · exact I1.fpOk (Nat.le_succ _) (I1.hok.fresh (Nat.le_succ _))
  · exact I1.fpOk (Nat.le_refl _) (I1.hok.fresh (Nat.le_refl _))
/-- over a list that the body leaves as it is, with the places -/
theorem for_enum {K : PySem.W.Frag} {a : Addr} {xs : List V} {g : TG} {tb : TS} {D : Ends} {σ : St} {H : Hp} (Pv : Nat → St → Hp → Prop) (h0 : Pv 0 σ H) (hl : ∀ i σ H, i ≤ xs.length → Pv i σ H → SqL K H a xs)
    (hs : ∀ i x t σ H, xs[i]? = some x → Pv i σ H → H t = none → g (.ref t) σ (upd H t (.tup [.int i, x])) fun σ2 H2 => tb { D with nx := Pv (i + 1), ct := Pv (i + 1), bk := D.nx } σ2 H2)
    (hd : ∀ σ H, Pv xs.length σ H → D.nx σ H) :
    ∃ W : Nat → Nat → St → Hp → Prop, (∃ m, W 0 m σ H) ∧ ∀ i m σ H, W i m σ H →
      ((Ite K a).stop i H ∧ D.nx σ H) ∨ ((Ite K a).go i H ∧ ∃ N : St → Hp → Prop, (∀ σ' H', N σ' H' → ∃ m', m' < m ∧ W (i + 1) m' σ' H') ∧ ∀ x H', (Ite K a).yld i H x H' → g x σ H' fun σ2 H2 => tb { D with nx := N, ct := N, bk := D.nx } σ2 H2) := by
  refine ⟨fun i m σ H => i ≤ xs.length ∧ m = xs.length - i ∧ Pv i σ H, ⟨_, Nat.zero_le _, rfl, h0⟩, fun i m σ H ⟨hi, hm, hp⟩ => ?_⟩
  have hsq := hl i σ H hi hp
  by_cases hlt : i < xs.length
  · refine .inr ⟨⟨xs, xs[i], hsq, List.getElem?_eq_getElem hlt⟩, Pv (i + 1), fun σ' H' hn => ⟨xs.length - (i + 1), by omega, by omega, rfl, hn⟩, fun v H' ⟨t, x, hn, ev, eH, hx⟩ => ?_⟩
    subst ev eH
    exact hs i x t σ H (hx xs hsq) hp hn
  · have e : i = xs.length := by omega
    subst e
    exact .inl ⟨⟨xs, hsq, Nat.le_refl _⟩, hd σ H hp⟩
end
end L2

set_option Elab.async false
set_option linter.all false
set_option maxRecDepth 100000
namespace L2
open PySem PySem.Spec PyProof.Rows
section
variable {t u : TS} {D : Ends} {σ : St} {H : Hp} {c : TT} {te ta tb tc : TE} {Q : VK} {QB : Bool → Hp → Prop} {r r' : R2} {i j : Nat} {v x y : V} {tA tB' : TT} {TAr : TA} {TEr : TE} {QA : List V → Hp → Prop} {sp : Sp} {dvs : List V} {E : XK} {K : PySem.W.Frag}
  {f : Str} {a C dx : Addr} {fs : List (Str × V)}
theorem rd_seq (h : t { D with nx := u D } σ H) : tSeq t u D σ H := h
theorem rd_next (h : D.nx σ H) : tNext D σ H := h
theorem rd_ifS (h : c σ H fun b H1 => if b = true then t D σ H1 else u D σ H1) : tIfS c t u D σ H := h
theorem rd_test (h : te σ H fun x H' => ∃ k, x = .bl k ∧ QB k H') : tTest te σ H QB := h
theorem rd_tB (h : te σ H fun x H' => ∃ k, x = .bl k ∧ QB k H') : tB te σ H QB := h
theorem rd_and (h : tA σ H fun c H1 => if c = true then tB' σ H1 QB else QB false H1) : tAnd tA tB' σ H QB := h
theorem rd_or (h : tA σ H fun c H1 => if c = true then QB true H1 else tB' σ H1 QB) : tOr tA tB' σ H QB := h
theorem rd_not (h : tA σ H fun c H1 => QB (!c) H1) : tNot tA σ H QB := h
theorem rd_andV (h : ta σ H fun x H1 => ∃ c, x = .bl c ∧ if c = true then tb σ H1 Q else Q (.bl false) H1) : tAndV ta tb σ H Q := h
theorem rd_orV (h : ta σ H fun x H1 => ∃ c, x = .bl c ∧ if c = true then Q (.bl true) H1 else tb σ H1 Q) : tOrV ta tb σ H Q := h
theorem rd_notV (h : ta σ H fun x H1 => ∃ c, x = .bl c ∧ Q (.bl (!c)) H1) : tNotV ta σ H Q := h
theorem rd_op (h : ta σ H fun x H1 => tb σ H1 fun y H2 => r x y H2 Q) : tOp r ta tb σ H Q := h
theorem rd_un {ru : V → Hp → VK → Prop} (h : ta σ H fun x H1 => ru x H1 Q) : tUn ru ta σ H Q := h
theorem rd_rU {g : Int → V} {n : Int} (h : Q (g n) H) : rU g (.int n) H Q := ⟨n, rfl, h⟩
theorem rd_chain (h : ta σ H fun x H1 => tb σ H1 fun y H2 => r x y H2 fun z H3 => ∃ k, z = .bl k ∧ (if k = true then tc σ H3 fun w' H4 => r' y w' H4 Q else Q (.bl false) H3)) : tChain r r' ta tb tc σ H Q := h
theorem rd_var (e : σ[i]? = some (some v)) (h : Q v H) : tVar i σ H Q := ⟨v, e, h⟩
theorem rd_c (h : Q v H) : tC v σ H Q := h
theorem rd_I0 {g : Int → Int → V} {m n : Int} (h : Q (g m n) H) : rI0 g (.int m) (.int n) H Q := ⟨m, n, rfl, rfl, h⟩
theorem rd_I {g : Int → Int → V} {CC : Int → Int → Prop} {m n : Int} (h1 : CC m n) (h : Q (g m n) H) : rI CC g (.int m) (.int n) H Q := ⟨m, n, rfl, rfl, h1, h⟩
theorem rd_eq (s : scal x y = true) (h : Q (.bl (decide (x = y))) H) : rEq x y H Q := ⟨s, h⟩
theorem rd_ne (s : scal x y = true) (h : Q (.bl (!decide (x = y))) H) : rNe x y H Q := ⟨s, h⟩
theorem rd_bl {k : Bool} (h : QB k H) : ∃ k', V.bl k = .bl k' ∧ QB k' H := ⟨k, rfl, h⟩
theorem rd_blp {k : Bool} {PP : Bool → Prop} (h : PP k) : ∃ k', V.bl k = .bl k' ∧ PP k' := ⟨k, rfl, h⟩
theorem rd_and1 {PP : Prop} (h : PP) : V.non = V.non ∧ PP := ⟨rfl, h⟩
theorem rd_ret (h : te σ H D.rt) : tRet te D σ H := h
theorem rd_drop (h : te σ H fun _ H1 => D.nx σ H1) : tDrop te D σ H := h
theorem rd_asg {g : TG} (h : te σ H fun x H1 => g x σ H1 D.nx) : tAsg te g D σ H := h
theorem rd_gName {QS : St → Hp → Prop} (h : QS (σ.set i (some v)) H) : gName i v σ H QS := h
theorem rd_cons (h : ta σ H fun x H1 => TAr σ H1 fun xs H2 => QA (x :: xs) H2) : tCons ta TAr σ H QA := h
theorem rd_nil (h : QA [] H) : tNil σ H QA := h
theorem rd_cb {rr : List V → Hp → VK → Prop} (h : TAr σ H fun vs H1 => rr vs H1 Q) : tCB rr TAr σ H Q := h
theorem rd_call (h : TAr σ H fun vs H1 => sp (vs ++ dvs) H1 Q E) : tCall sp dvs E TAr σ H Q := h
theorem rd_tup (h : TAr σ H fun xs H1 => xs.length ≤ sizeLine ∧ ∀ p, H1 p = none → Q (.ref p) (upd H1 p (.tup xs))) : tTup TAr σ H Q := h
theorem rd_lst (h : TAr σ H fun xs H1 => xs.length ≤ sizeLine ∧ ∀ p, H1 p = none → Q (.ref p) (upd H1 p (.lst xs))) : tLst TAr σ H Q := h
theorem rd_ite {cc A B : Prop} [Decidable cc] (h1 : cc → A) (h2 : ¬ cc → B) : if decide cc = true then A else B := by
  by_cases h : cc
  · rw [if_pos (decide_eq_true h)]; exact h1 h
  · rw [if_neg (by simp [h])]; exact h2 h
theorem rd_iteN {cc A B : Prop} [Decidable cc] (h1 : ¬ cc → A) (h2 : cc → B) : if (!decide cc) = true then A else B := by
  by_cases h : cc
  · rw [if_neg (by simp [h])]; exact h2 h
  · rw [if_pos (by simp [h])]; exact h1 h
theorem rd_gen {tc : TT} (C : Bool → Hp → Prop) (h1 : ∀ b H1, C b H1 → QB b H1) (h2 : ∀ QB' : Bool → Hp → Prop, (∀ b H1, C b H1 → QB' b H1) → tc σ H QB') : tc σ H QB := h2 QB h1
theorem rd_joinIf (C : St → Hp → Prop) (h1 : ∀ σ' H', C σ' H' → D.nx σ' H') (h2 : ∀ nx : St → Hp → Prop, (∀ σ' H', C σ' H' → nx σ' H') → tIfS c t u { D with nx := nx } σ H) : tIfS c t u D σ H := h2 D.nx h1
theorem rd_join (C : St → Hp → Prop) (h1 : ∀ σ' H', C σ' H' → D.nx σ' H') (h2 : ∀ nx : St → Hp → Prop, (∀ σ' H', C σ' H' → nx σ' H') → t { D with nx := nx } σ H) : t D σ H := h2 D.nx h1
theorem rd_iteT {A B : Prop} (h : A) : if true = true then A else B := iteT h
theorem rd_iteF {A B : Prop} (h : B) : if false = true then A else B := iteF h
theorem rd_iteNT {A B : Prop} (h : B) : if (!true) = true then A else B := iteF h
theorem rd_iteNF {A B : Prop} (h : A) : if (!false) = true then A else B := iteT h
theorem rd_iteB {b : Bool} {A B : Prop} (h1 : b = true → A) (h2 : b = false → B) : if b = true then A else B := by
  cases b
  · exact iteF (h2 rfl)
  · exact iteT (h1 rfl)
theorem rd_iteNB {b : Bool} {A B : Prop} (h1 : b = false → A) (h2 : b = true → B) : if (!b) = true then A else B := by
  cases b
  · exact iteT (h1 rfl)
  · exact iteF (h2 rfl)
theorem rd_for {wi : TI} {g : TG} {tbd : TS} (h : wi σ H fun J H1 => ∃ W : Nat → Nat → St → Hp → Prop, (∃ m, W 0 m σ H1) ∧ ∀ i m σ H, W i m σ H →
    (J.stop i H ∧ D.nx σ H) ∨ (J.go i H ∧ ∃ N : St → Hp → Prop, (∀ σ' H', N σ' H' → ∃ m', m' < m ∧ W (i + 1) m' σ' H') ∧ ∀ x H', J.yld i H x H' → g x σ H' fun σ2 H2 => tbd { D with nx := N, ct := N, bk := D.nx } σ2 H2)) : tFor wi g tbd D σ H := h
theorem rd_rng1 {R : It → Hp → Prop} (h : TAr σ H fun vs H1 => ∃ j : Int, vs = [.int j] ∧ -(2 ^ 62) ≤ j ∧ j < 2 ^ 62 ∧ R (Itr 0 j.toNat) H1) : iRng1 TAr σ H R := h
theorem rd_rng2 {R : It → Hp → Prop} (h : TAr σ H fun vs H1 => ∃ i j : Int, vs = [.int i, .int j] ∧ (-(2 ^ 62) ≤ i ∧ i < 2 ^ 62 ∧ -(2 ^ 62) ≤ j ∧ j < 2 ^ 62) ∧ R (Itr i (j - i).toNat) H1) : iRng2 TAr σ H R := h
theorem rd_bm {T : String} {rr : V → List V → Hp → VK → Prop} (h : te σ H fun x H1 => tyV K T x H1 ∧ TAr σ H1 fun xs H2 => rr x xs H2 Q) : tBM K T rr te TAr σ H Q := h
theorem rd_make (h : TAr σ H fun vs H1 => ∀ x dx, H1 x = none → H1 dx = none → dx ≠ x → sp (.ref x :: (vs ++ dvs)) (upd (upd H1 dx (.own x)) x (.ins C dx [])) (fun v H2 => v = .non ∧ Q (.ref x) H2) E) : tMake C sp dvs E TAr σ H Q := h
theorem rd_meth {m : Str} (h : ta σ H fun x H1 => ∃ a dx fs, x = .ref a ∧ H1 a = some (.ins C dx fs) ∧ fs.lookup m = none ∧ TAr σ H1 fun vs H2 => sp (x :: (vs ++ dvs)) H2 Q E) : tMeth C m sp dvs E ta TAr σ H Q := h
theorem rd_raise (h : TAr σ H fun vs H1 => vs.length ≤ sizeLine ∧ E (.ref C) none H1) : tRaise C E TAr D σ H := h
theorem rd_fs {t : TF} (h : t Str.empty σ H Q) : tFs t σ H Q := h
theorem rd_try {CE : Addr} {tb : TSX} (h : tb D (fun σ' cls _ H' => ∃ C, cls = .ref C ∧ PySem.W.exmOne K (.ref C) (.ref CE) = some true ∧ ∀ a, H' a = none → D.nx ((σ'.set i (some (.ref a))).set j none) (upd H' a (.ext (IsExc a C)))) σ H) : tTry K CE i j tb D σ H := h
theorem rd_dropX {tx : TEX} {EX : St → XK} (h : tx σ H (fun _ H1 => D.nx σ H1) (EX σ)) : tDropX tx D EX σ H := h
theorem rd_makeX (h : TAr σ H fun vs H1 => ∀ y dx, H1 y = none → H1 dx = none → dx ≠ y → sp (.ref y :: vs) (upd (upd H1 dx (.own y)) y (.ins C dx [])) (fun v H2 => v = .non ∧ Q (.ref y) H2) E) : tMakeX C sp TAr σ H Q E := h
theorem rd_sub {to ti : TE} {ts : TSet} {QS : St → Hp → Prop} (h : to σ H fun o H1 => ti σ H1 fun i H2 => ts o i v H2 fun H3 => QS σ H3) : gSub to ti ts v σ H QS := h
theorem rd_sl {rs : V → Option Int → Option Int → Hp → VK → Prop} {tl th : TO} (h : te σ H fun x H1 => tl σ H1 fun l H2 => th σ H2 fun u H3 => rs x l u H3 Q) : tSl rs te tl th σ H Q := h
theorem rd_noPart {QO : Option Int → Hp → Prop} (h : QO none H) : tNoPart σ H QO := h
theorem rd_part {QO : Option Int → Hp → Prop} (h : te σ H fun x H1 => ∃ i, x = .int i ∧ QO (some i) H1) : tPart te σ H QO := h
theorem rd_intx {PP : Int → Prop} {n : Int} (h : PP n) : ∃ i, V.int n = .int i ∧ PP i := ⟨n, rfl, h⟩
/-- an attribute -/
theorem rd_fld (h : ta σ H fun x H1 => ∃ a C dx fs v, x = .ref a ∧ H1 a = some (.ins C dx fs) ∧ Cls K C ∧ NoAttr K C f ∧ fs.lookup f = some v ∧ Q v H1) : tFld K ta f σ H Q := h
theorem rd_sfld {tv : TE} (h : tv σ H fun y H1 => ta σ H1 fun x H2 => ∃ a C dx fs, x = .ref a ∧ H2 a = some (.ins C dx fs) ∧ Cls K C ∧ NoAttr K C f ∧ fs.length < 1000 ∧ D.nx σ (upd H2 a (.ins C dx (putF f y fs)))) : sFld K ta tv f D σ H := h
theorem rd_sfldaug {tv : TE} {rr : V → V → Hp → VK → Prop} (h : ta σ H fun x H1 => ∃ a C dx fs v, x = .ref a ∧ H1 a = some (.ins C dx fs) ∧ Cls K C ∧ NoAttr K C f ∧ fs.lookup f = some v ∧
    tv σ H1 fun y H2 => rr v y H2 fun z H3 => ∃ dx' fs', H3 a = some (.ins C dx' fs') ∧ fs'.length < 1000 ∧ D.nx σ (upd H3 a (.ins C dx' (putF f z fs')))) : sFldAug K ta tv rr f D σ H := h
theorem rd_sfldx {NX : St → Hp → Prop} {y : V} (h1 : H a = some (.ins C dx fs)) (h2 : Cls K C) (h3 : NoAttr K C f) (h4 : fs.length < 1000) (h : NX σ (upd H a (.ins C dx (putF f y fs)))) :
    ∃ a' C dx fs, V.ref a = .ref a' ∧ H a' = some (.ins C dx fs) ∧ Cls K C ∧ NoAttr K C f ∧ fs.length < 1000 ∧ NX σ (upd H a' (.ins C dx (putF f y fs))) := ⟨a, C, dx, fs, rfl, h1, h2, h3, h4, h⟩
theorem rd_ixT {p : Addr} {xs : List V} {n : Int} {v : V} (h1 : SqT K H p xs) (h2 : atI xs n = some v) (h : Q v H) : rIxT K (.ref p) (.int n) H Q := ⟨p, xs, n, v, rfl, rfl, h1, h2, h⟩
theorem rd_ixL {p : Addr} {xs : List V} {n : Int} {v : V} (h1 : SqL K H p xs) (h2 : atI xs n = some v) (h : Q v H) : rIxL K (.ref p) (.int n) H Q := ⟨p, xs, n, v, rfl, rfl, h1, h2, h⟩
end
end L2
namespace L2
open PySem PySem.Spec PyProof.Rows
theorem pe_bT {X : Cx} {x : Str} {TT : String} {pos : Pos} (hg : Gl X x) (hm : X.mg x = none) (hv : bootBuiltins x = some (.type TT)) (hn : x ≠ "__name__" := by decide) (hd : (x == ("__debug__" : Str)) = false := by decide) : PE X (.Name x pos) (tC (.ty TT)) :=
  pe_bltn (v := .ty TT) hg hm hv rfl hn hd
/-- an own class of exceptions, as isinstance asks it -/
structure ExcC (K : PySem.W.Frag) (C : Addr) : Prop where
  is : Exc K C
  ga : PySem.W.findIn K (.ref C) "__getattribute__" = some (some (.builtin "BaseException.__getattribute__"))
  gx : PySem.W.findIn K (.ref C) "__getattr__" = some none
  cl : PySem.W.findIn K (.ref C) "__class__" = some (some (.builtin "object.__class__"))
  ob : PySem.W.mroIn K C (.type "object") = some true
  be : PySem.W.subIn K (.ref C) (.type "BaseException") = some true
end L2

set_option Elab.async false
set_option linter.all false
set_option maxRecDepth 100000
namespace L2
open PySem PySem.Spec PyProof.Rows PySem.W Builtin Builtin.ObjectAttr Builtin.Getset_descriptor
theorem boot_ValueError : bootBuiltins "ValueError" = some (.type "ValueError") := by decide +kernel
section
variable {prog : Program} {w : World} {A : Around} {E : Value → Shared → Prop} {h : Heap} {g : Array GenState} {d : Drawn} {t : Nat} {os : OsState} {a C : Addr} {o : Obj} {K : PySem.W.Frag}
theorem xc_type {M : Model} (hx : h.get? a = some o) (hc : o.cls = .ref C) : PySem.W.Looks M h (typeOf (.ref a)) (.ref C) := hc ▸ (PySem.W.Looks.ld hx).andThen .now
theorem xc_get {tp : Value} {R : Result → Shared → Prop} (X : K.In h) (hx : h.get? a = some o) (hc : o.cls = .ref C) (hm : PySem.W.mroIn K C (.type "object") = some true) (hq : R (.ok (.ret (.ref C))) ⟨h, g, d, t, os⟩) :
    codeAny (model prog w) A (.call (.builtin "getset_descriptor.__get__") ⟨[.builtin "object.__class__", .ref a, tp], []⟩) R ⟨h, g, d, t, os⟩ := by
  have L0 := xc_type (M := model prog w) hx hc
  have L1 := PySem.W.looks_mroIn (M := model prog w) X hm
  refine codeAny_call_builtin KF.slot_gs.plain KF.entry_gs (KF.slot_gs.check _ _ _ _ _ _ _ _ KF.type_class (KF.args_gs _ _ _) ?_)
  unfold Builtin.«getset_descriptor.__get__» descrGet
  rw [dga_obj]
  refine wpAny_bind (wpAny_pure ?_)
  unfold descrGetter descrCheckInstance descrNameAndClass isInstance
  simp only [KF.owner_class]
  repeat lk
  refine ⟨Code.quiet_builtin _ (by decide +kernel), codeAny_builtin KF.entry_class ?_⟩
  unfold Builtin.«object.__class__» shownTypeOf
  repeat lk
  exact hq
theorem xc_entry {tk : Tok} {Q : Fin → Shared → Prop} (X : K.In h) (hx : h.get? a = some o) (hc : o.cls = .ref C) (hcl : PySem.W.findIn K (.ref C) "__class__" = some (some (.builtin "object.__class__"))) (hm : PySem.W.mroIn K C (.type "object") = some true) (hq : Q (.done (.ret (.ref C))) ⟨h, g, d, t, os⟩) :
    wpAny (model prog w) A (Builtin.«object.__getattribute__» ⟨[.ref a, .str "__class__" tk], []⟩) Q E ⟨h, g, d, t, os⟩ := by
  have L0 := xc_type (M := model prog w) hx hc
  have L1 := PySem.W.looks_findIn (M := model prog w) X hcl
  have hT5 : (⟨h, g, d, t, os⟩ : Shared).TypeIs (.builtin "object.__class__") "getset_descriptor" := F.typeOf_object_class
  have f5 := F.typeOf_object_class
  have f6 := F.slot_gs_get.lookup
  have f7 := F.slot_gs_set.lookup
  repeat (any_goals (first | assumption | with_reducible refine PySem.W.Looks.at L0 ?_ | with_reducible refine PySem.W.Looks.at L1 ?_ | wp_step))
  refine xc_get X hx hc hm ?_
  repeat (any_goals (first | assumption | wp_step))
theorem xc_check {M : Model} {nameV : Value} {Q : Unit → Shared → Prop} (X : K.In h) (hx : h.get? a = some o) (hc : o.cls = .ref C) (hb : PySem.W.subIn K (.ref C) (.type "BaseException") = some true) (hq : Q () ⟨h, g, d, t, os⟩) :
    wpAny M A (checkBuiltinCall "BaseException.__getattribute__" ⟨[.ref a, nameV], []⟩) Q E ⟨h, g, d, t, os⟩ := by
  have L0 := xc_type (M := M) hx hc
  have L1 := PySem.W.looks_subIn (M := M) X hb
  have hk : builtinKind "BaseException.__getattribute__" = some .slot := by decide +kernel
  have hsplit : splitId "BaseException.__getattribute__" = some ("BaseException", "__getattribute__") := by decide +kernel
  have ha := F.args_bexc_ga (.ref a) nameV
  simp only [checkBuiltinCall, hk, hsplit]
  refine wpAny_bind ?_
  unfold isInstance
  repeat (first | with_reducible refine PySem.W.Looks.at L0 ?_ | with_reducible refine PySem.W.Looks.at L1 ?_ | wp_step)
  exact hq
theorem xc_by {tk : Tok} {Q : Value → Shared → Prop} (X : K.In h) (hx : h.get? a = some o) (hc : o.cls = .ref C) (x : ExcC K C) (hq : Q (.ref C) ⟨h, g, d, t, os⟩) : wpAny (model prog w) A (getAttrBy (.ref a) (.str "__class__" tk) false) Q E ⟨h, g, d, t, os⟩ := by
  have L0 := xc_type (M := model prog w) hx hc
  have L1 := PySem.W.looks_findIn (M := model prog w) X x.ga
  have L2 := PySem.W.looks_findIn (M := model prog w) X x.gx
  have f3 := F.excAttr_ValueError.ga.bind (.ref a)
  have hx2 : (Value.builtin "BaseException.__getattribute__" == Value.builtin "object.__getattribute__") = false := by decide +kernel
  have hx1 : (onTheHeap (Value.ref C) && Value.builtin "BaseException.__getattribute__" == Value.builtin "object.__getattribute__") = false := by rw [hx2]; rfl
  repeat (any_goals (first | assumption | with_reducible refine PySem.W.Looks.at L0 ?_ | with_reducible refine PySem.W.Looks.at L1 ?_ | with_reducible refine PySem.W.Looks.at L2 ?_ | wp_step))
  refine codeAny_call_builtin F.excAttr_ValueError.ga.plain F.entry_bexc_ga (xc_check X hx hc x.be (xc_entry X hx hc x.cl x.ob ?_))
  repeat (any_goals (first | assumption | wp_step))
theorem xc_attr {Q : Option Value → Shared → Prop} {s : Shared} (X : K.In s.heap) (hx : s.heap.get? a = some o) (hc : o.cls = .ref C) (x : ExcC K C) (hq : Q (some (.ref C)) { s with toks := s.toks + 1 }) : wpAny (model prog w) A (getAttr? (.ref a) "__class__") Q E s := by
  obtain ⟨h, g, d, t, os⟩ := s
  unfold getAttr? getAttrBy?
  repeat (any_goals (first | assumption | with_reducible apply xc_by X hx hc x | wp_step))
end

theorem kitx_exc {K : PySem.W.Frag} {a C : Addr} (x : ExcC K C) : PySem.W.KitX K (.ref a) (.ref C) (IsExc a C) where
  ty := fun M h _ ⟨o, vs, h1, h2, _⟩ => xc_type h1 h2
  it := fun M h X _ => by
    obtain ⟨bm, N, nm, qn, bs, hdct, sn, sub, ab, col, dd, k0, k1, k2, k3, k5, mN, hC, _⟩ := exc_obj X x.is
    intro A' Q' E' s' k q
    unfold isType loadHead
    exact wpAny_bind (wpAny_loadPart (k _ _ hC) (wpAny_pure q))
  ne := fun h tp dd its n sl X htp => by
    obtain ⟨bm, N, nm, qn, bs, hdct, sn, sub, ab, col, dd, k0, k1, k2, k3, k5, mN, hC, _⟩ := exc_obj X x.is
    refine Bool.eq_false_iff.mpr fun q => ?_
    have e : C = tp := Value.ref.inj (beq_iff_eq.mp q)
    subst e
    rw [hC] at htp
    have z := Option.some.inj htp
    have z2 := congrArg Obj.data z
    unfold excClassObj at z2
    cases z2
  ca := fun X ⟨o, vs, h1, h2, _⟩ k => xc_attr X h1 h2 x k
section
variable {X : Cx}
/-- isinstance(e, c) of an exception e -/
theorem call_isinstX : CallR X (.builtin "isinstance") (fun xs H Q => ∃ a C c cv b, xs = [.ref a, c] ∧ clsV c = some cv ∧ H a = some (.ext (IsExc a C)) ∧ ExcC X.K C ∧ PySem.W.kitOne X.K (.ref C) cv = some b ∧ Q (.bl b) H) := by
  intro pins s σ H xs us Q I r h
  obtain ⟨a, C, c, cv, b, rfl, hc, ha, x, e, q⟩ := h
  obtain ⟨u, v, rfl, ru, rv⟩ := vals2 r
  rw [clsV_rel rv hc]
  obtain rfl : u = Value.ref a := ru
  have hx : IsExc a C s.heap := (I.hok a _ ha).1
  exact PySem.W.kia_one (kitx_exc x) I.kIn hx e (fun z => nomatch z) fun tk => ⟨.bl b, H, I.tok tk, rfl, q⟩
/-- isinstance(e, (c, ..)) of an exception e, the classes refs -/
theorem call_isinstXs : CallR X (.builtin "isinstance") (fun xs H Q => ∃ (a C t : Addr) (cs : List Addr) (b : Bool), xs = [.ref a, .ref t] ∧ H a = some (.ext (IsExc a C)) ∧ H t = some (.tup (cs.map V.ref)) ∧ ExcC X.K C ∧ PySem.W.kitAny X.K (.ref C) (cs.map Value.ref) = some b ∧ Q (.bl b) H) := by
  intro pins s σ H xs us Q I r h
  obtain ⟨a, C, t, cs, b, rfl, ha, ht, x, e, q⟩ := h
  obtain ⟨u, v, rfl, ru, rv⟩ := vals2 r
  obtain rfl : u = Value.ref a := ru
  obtain rfl : v = Value.ref t := rv
  have hx : IsExc a C s.heap := (I.hok a _ ha).1
  obtain ⟨its, rt, p, hz⟩ := I.tuple (SqT.of (K := X.K) ht)
  have same : its = cs.map Value.ref := by
    clear e q ht hz p
    induction cs generalizing its with
    | nil => cases rt; rfl
    | cons z zs ih =>
      cases rt with
      | cons r1 t1 => rw [show _ = Value.ref z from r1, ih _ t1]; rfl
  subst same
  obtain ⟨ob, h1, h2, n, h3⟩ := p
  obtain ⟨oc, od, oda, osl⟩ := ob
  dsimp only at h2 h3
  subst h2 h3
  exact PySem.W.kia_tup (kitx_exc x) I.kIn hx h1 e (fun z => nomatch z) fun tk => ⟨.bl b, H, I.tok tk, rfl, q⟩
/-- xs[::-1] of a list: a new list -/
def tRev (K : PySem.W.Frag) (te : TE) : TE := fun σ H Q => te σ H fun x H1 => ∃ a xs, x = .ref a ∧ SqL K H1 a xs ∧ ∀ p, H1 p = none → Q (.ref p) (upd H1 p (.lst xs.reverse))
theorem pe_rev {e : Expr} {te : TE} {i1 : Nat} {p1 p2 p3 pos : Pos} (he : PE X e te) : PE X (.Subscript e (.Slice none none (some (.UnaryOp .USub (.Constant (.int 1) i1 p1) p3)) p2) pos) (tRev X.K te) := by
  intro pins s σ H Q I h
  refine Subscript_ (thn (he pins s σ H _ I h) fun v s1 ⟨x, H1, I1, r1, q1⟩ => ?_)
  obtain ⟨a, xs, rfl, hx, q⟩ := q1
  obtain rfl : v = Value.ref a := r1
  have hneg : PE X (.UnaryOp .USub (.Constant (.int 1) i1 p1) p3) (tUn (rU fun i => .int (-i)) (tC (.int 1))) := pe_un un_neg pe_int
  refine wpAny_Slice (thn (po_none pins s1 σ H1 _ I1 (show tNoPart σ H1 fun o H2 => o = none ∧ H2 = H1 from ⟨rfl, rfl⟩)) fun vl s2 ⟨l, H2, I2, pl, e1, e2⟩ => ?_)
  subst e1 e2
  refine thn (po_none pins s2 σ H2 _ I2 (show tNoPart σ H2 fun o H3 => o = none ∧ H3 = H2 from ⟨rfl, rfl⟩)) fun vu s3 ⟨u, H3, I3, pu, e1, e2⟩ => ?_
  subst e1 e2
  refine thn ((po_some hneg) pins s3 σ H3 _ I3 (show tPart (tUn (rU fun i => .int (-i)) (tC (.int 1))) σ H3 fun o H4 => o = some (-1) ∧ H4 = H3 from ⟨1, rfl, -1, rfl, rfl, rfl⟩)) fun vk s4 ⟨k, H4, I4, pk, e1, e2⟩ => ?_
  subst e1 e2
  have I5 : Inv X pins σ H4 { s4 with heap := s4.heap.push { cls := .type "slice", data := .fields #[vl, vu, vk] } } := I4.kept (t' := s4.toks) fun b ob q => Heap.get?_push_of_some _ q
  obtain ⟨its, r, ht, hz⟩ := I5.list hx
  have hlen := r.length
  show wpAny (model X.prog X.w) X.A (subscriptTail e _ (.ref a) (.ref s4.heap.objs.size)) (EP X pins σ Q) X.xe { s4 with heap := s4.heap.push { cls := .type "slice", data := .fields #[vl, vu, vk] } }
  refine tail_any (ops := [.ref a, .ref s4.heap.objs.size]) ht.isList.typeIs slot_list_getitem.lookup ?_ (by with_unfolding_all rfl)
  refine wpAny_getItem_list_slice ht.isList (Heap.IsSliceOf.new ..) pl pu pk (by decide) ?_ (by rw [List.size_toArray] <;> omega)
  rw [PySem.W.krv_pick]
  refine ⟨.ref _, _, I5.laid (t' := s4.toks) (o := .lst xs.reverse) (fun b ob q => Heap.get?_push_of_some _ q) (Nat.le_refl _) ?_, rfl, q _ (I5.hok.fresh (Nat.le_refl _))⟩
  exact ⟨by rw [List.length_reverse]; exact hz, its.reverse, 0, r.reverse, Heap.get?_push_size _ rfl⟩
theorem rd_rev {K : PySem.W.Frag} {te : TE} {σ : St} {H : Hp} {Q : VK} (h : te σ H fun x H1 => ∃ a xs, x = .ref a ∧ SqL K H1 a xs ∧ ∀ p, H1 p = none → Q (.ref p) (upd H1 p (.lst xs.reverse))) : tRev K te σ H Q := h
end
end L2

set_option Elab.async false
set_option linter.all false
set_option maxRecDepth 100000
set_option maxHeartbeats 4000000
namespace My
open PySem L2 PyProof.Rows
def top (i : Nat) : Stmt := PySem.Challenge.pw_chessclock_k01_bad_stages.main.body.getD i (.Pass ⟨0, 0, 0, 0⟩)
abbrev s_is_whole_within : Stmt := top 14
abbrev s_is_good_main : Stmt := top 15
abbrev s_is_good_over : Stmt := top 16
abbrev s_is_main : Stmt := top 17
abbrev s_is_over : Stmt := top 18
abbrev s_is_endless : Stmt := top 19
abbrev s_ticks_of : Stmt := top 20
abbrev s_is_good_stage : Stmt := top 21
abbrev s_may_stand_behind : Stmt := top 22
abbrev s_check_each : Stmt := top 23
abbrev s_check_order : Stmt := top 24
abbrev s_read_stages : Stmt := top 25
abbrev s_law_cell : Stmt := top 35
abbrev s_law_mix : Stmt := top 36
abbrev s_law_stages : Stmt := top 37
abbrev s_law_main : Stmt := top 39
abbrev s_law_good : Stmt := top 40
abbrev s_Side_begin_stage : Stmt := inClass (top 31) 1
abbrev s_Side_init : Stmt := inClass (top 31) 0
abbrev s_Clock_init : Stmt := inClass (top 33) 0
abbrev s_law : Stmt := top 41
structure Ads where
  cSide : Addr
  cClock : Addr
  xClockError : Addr
  xBadStages : Addr
  xBadTicks : Addr
  xNotNow : Addr
  xOver : Addr
  aW : Addr
def ways : List V := [.str "plain", .str "add", .str "back", .str "wait"]
theorem ways_of {K : PySem.W.Frag} {H : Hp} {AW : Addr} {od : Option Addr} {w1 w2 w3 w4 : Tok} {n : Nat} {sl : Array (Option Value)} (l : K.lookup AW = some ⟨.type "tuple", od, .seq #[.str "plain" w1, .str "add" w2, .str "back" w3, .str "wait" w4] n, sl⟩) : SqT K H AW ways :=
  .inr ⟨_, _, n, l, rfl, rfl, (by show 4 ≤ sizeLine; decide), .cons ⟨_, rfl⟩ (.cons ⟨_, rfl⟩ (.cons ⟨_, rfl⟩ (.cons ⟨_, rfl⟩ .nil)))⟩
structure Txt (K : PySem.W.Frag) (mg : Str → Option Value) (a : Ads) : Prop where
  f_is_whole_within : FnAt K mg "is_whole_within" s_is_whole_within ["value", "least", "most"]
  f_is_good_main : FnAt K mg "is_good_main" s_is_good_main ["stage"]
  f_is_good_over : FnAt K mg "is_good_over" s_is_good_over ["stage"]
  f_is_main : FnAt K mg "is_main" s_is_main ["stage"]
  f_is_over : FnAt K mg "is_over" s_is_over ["stage"]
  f_is_endless : FnAt K mg "is_endless" s_is_endless ["stage"]
  f_ticks_of : FnAt K mg "ticks_of" s_ticks_of ["stage"]
  f_is_good_stage : FnAt K mg "is_good_stage" s_is_good_stage ["stage"]
  f_may_stand_behind : FnAt K mg "may_stand_behind" s_may_stand_behind ["later", "earlier"]
  f_check_each : FnAt K mg "check_each" s_check_each ["stages"]
  f_check_order : FnAt K mg "check_order" s_check_order ["stages"]
  f_read_stages : FnAt K mg "read_stages" s_read_stages ["stages"]
  f_law_cell : FnAt K mg "_law_cell" s_law_cell ["_law_script", "_law_k"]
  f_law_mix : FnAt K mg "_law_mix" s_law_mix ["_law_script", "_law_k"]
  f_law_stages : FnAt K mg "_law_stages" s_law_stages ["_law_script", "_law_k"]
  f_law_main : FnAt K mg "_law_main" s_law_main ["_law_stage", "_law_last"]
  f_law_good : FnAt K mg "_law_good" s_law_good ["_law_stages_here"]
  m_Side_begin_stage : MtAt K a.cSide "begin_stage" "Side.begin_stage" s_Side_begin_stage ["self", "number"]
  i_Side : InAt K a.cSide "Side.__init__" s_Side_init ["self", "stages"]
  i_Clock : InAt K a.cClock "Clock.__init__" s_Clock_init ["self", "stages"]
  cl_Side : Cls K a.cSide
  g_Side : mg "Side" = some (.ref a.cSide)
  a_Side_stages : NoAttr K a.cSide "stages"
  a_Side_number : NoAttr K a.cSide "number"
  a_Side_moves_in_stage : NoAttr K a.cSide "moves_in_stage"
  a_Side_left : NoAttr K a.cSide "left"
  a_Side_periods : NoAttr K a.cSide "periods"
  a_Side_moves : NoAttr K a.cSide "moves"
  a_Side_passed : NoAttr K a.cSide "passed"
  cl_Clock : Cls K a.cClock
  g_Clock : mg "Clock" = some (.ref a.cClock)
  a_Clock_sides : NoAttr K a.cClock "sides"
  a_Clock_turn : NoAttr K a.cClock "turn"
  a_Clock_running : NoAttr K a.cClock "running"
  a_Clock_fallen : NoAttr K a.cClock "fallen"
  a_Clock_passed : NoAttr K a.cClock "passed"
  g_ClockError : mg "ClockError" = some (.ref a.xClockError)
  x_ClockError : ExcC K a.xClockError
  g_BadStages : mg "BadStages" = some (.ref a.xBadStages)
  x_BadStages : ExcC K a.xBadStages
  g_BadTicks : mg "BadTicks" = some (.ref a.xBadTicks)
  x_BadTicks : ExcC K a.xBadTicks
  g_NotNow : mg "NotNow" = some (.ref a.xNotNow)
  x_NotNow : ExcC K a.xNotNow
  g_Over : mg "Over" = some (.ref a.xOver)
  x_Over : ExcC K a.xOver
  c_MOST_STAGES : ∃ u, mg "MOST_STAGES" = some (.int 5 u)
  c_MOST_MOVES : ∃ u, mg "MOST_MOVES" = some (.int 200 u)
  c_MOST_PERIODS : ∃ u, mg "MOST_PERIODS" = some (.int 200 u)
  c_MOST_TICKS : ∃ u, mg "MOST_TICKS" = some (.int 1000000 u)
  c_MOST_EXTRA : ∃ u, mg "MOST_EXTRA" = some (.int 1000000 u)
  n_len : mg "len" = none
  n_isinstance : mg "isinstance" = none
  n_range : mg "range" = none
  n_enumerate : mg "enumerate" = none
  n_tuple : mg "tuple" = none
  n_list : mg "list" = none
  n_int : mg "int" = none
  n_bool : mg "bool" = none
  n_ValueError : mg "ValueError" = none
  g_WAYS : mg "WAYS" = some (.ref a.aW)
  ways : ∀ H, SqT K H a.aW ways
  k0 : PySem.W.kitOne K (.type "int") (.type "bool") = some false
  k1 : PySem.W.kitOne K (.ref a.xBadStages) (.type "ValueError") = some true
  e0 : PySem.W.exmOne K (.ref a.xBadStages) (.ref a.xClockError) = some true
  y0 : PySem.W.kitAny K (.ref a.xBadStages) [.ref a.xBadTicks, .ref a.xNotNow, .ref a.xOver] = some false
/-- a stage: five things, or three -/
inductive Sg where
  | five (z : Str) (m : Option Int) (t : Int) (w : Str) (e : Int)
  | three (z : Str) (p t : Int)
def optV : Option Int → V
  | some i => .int i
  | none => .non
def Sg.vs : Sg → List V
  | .five z m t w e => [.str z, optV m, .int t, .str w, .int e]
  | .three z p t => [.str z, .int p, .int t]
def Sg.word : Sg → Str
  | .five z _ _ _ _ => z
  | .three z _ _ => z
def Sg.one : Sg → V
  | .five _ m _ _ _ => optV m
  | .three _ p _ => .int p
def Sg.t : Sg → Int
  | .five _ _ t _ _ => t
  | .three _ _ t => t
theorem Sg.at0 (g : Sg) : atI g.vs 0 = some (.str g.word) := by cases g <;> rfl
theorem Sg.at1 (g : Sg) : atI g.vs 1 = some g.one := by cases g <;> rfl
theorem Sg.at2 (g : Sg) : atI g.vs 2 = some (.int g.t) := by cases g <;> rfl
def Sg.isW (g : Sg) (z : Str) : Bool := decide (V.str g.word = V.str z)
def Sg.endless (g : Sg) : Bool := g.isW "main" && decide (g.one = V.non)
def inn (i lo hi : Int) : Bool := decide (lo ≤ i) && decide (i ≤ hi)
def mOk : Option Int → Bool
  | some k => inn k 1 200
  | none => true
def goodMain : Sg → Bool
  | .five _ m t w e => mOk m && inn t 1 1000000 && inV (.str w) ways && inn e 0 1000000
  | .three _ _ _ => false
def goodOver : Sg → Bool
  | .five _ _ _ _ _ => false
  | .three _ p t => inn p 1 200 && inn t 1 1000000
def goodSg (g : Sg) : Bool := if g.isW "main" = true then goodMain g else g.isW "over" && goodOver g
def may (l e : Sg) : Bool := !e.isW "over" && (l.isW "over" || !e.endless)
section
variable {P : Program} {w : World} {K : PySem.W.Frag} {mg : Str → Option Value} {base : Heap} {a : Ads}
local macro_rules | `(tactic| walk_at "rd1") => `(tactic| first
  | with_reducible refine rd_seq ?_
  | with_reducible refine rd_next ?_
  | with_reducible refine rd_ifS ?_
  | with_reducible refine rd_test ?_
  | with_reducible refine rd_tB ?_
  | with_reducible refine rd_and ?_
  | with_reducible refine rd_or ?_
  | with_reducible refine rd_not ?_
  | with_reducible refine rd_andV ?_
  | with_reducible refine rd_orV ?_
  | with_reducible refine rd_notV ?_
  | with_reducible refine rd_op ?_
  | with_reducible refine rd_un ?_
  | with_reducible refine rd_rU ?_
  | with_reducible refine rd_chain ?_
  | with_reducible refine rd_ifE ?_
  | ((with_reducible refine rd_var (v := ?_) ?rv ?_); (case rv => rfl))
  | with_reducible refine rd_c ?_
  | with_reducible refine rd_I0 ?_
  | ((with_reducible refine rd_I ?rs ?_); (case rs => first | (show (0 : Int) < _; decide) | (refine Or.inl ⟨?_, ?_⟩ <;> decide) | (refine Or.inr ⟨?_, ?_⟩ <;> decide) | (refine And.intro ?_ ?_ <;> decide)))
  | ((with_reducible refine rd_eq ?rv ?_); (case rv => rfl))
  | ((with_reducible refine rd_ne ?rv ?_); (case rv => rfl))
  | with_reducible refine rd_bl ?_
  | with_reducible refine rd_blp ?_
  | with_reducible refine rd_and1 ?_
  | with_reducible refine rd_ret ?_
  | with_reducible refine rd_retN ?_
  | with_reducible refine rd_drop ?_
  | with_reducible refine rd_asg ?_
  | with_reducible refine rd_gName ?_
  | with_reducible refine rd_cons ?_
  | with_reducible refine rd_nil ?_
  | with_reducible refine rd_cb ?_
  | with_reducible refine rd_call ?_
  | with_reducible refine rd_tup ?_
  | with_reducible refine rd_lst ?_
  | with_reducible refine rd_fld ?_
  | with_reducible refine rd_sfld ?_
  | with_reducible refine rd_sfldaug ?_
  | with_reducible refine rd_for ?_
  | with_reducible refine rd_rng1 ?_
  | with_reducible refine rd_rng2 ?_
  | with_reducible refine rd_iList ?_
  | with_reducible refine rd_bm ?_
  | with_reducible refine rd_bm0 ?_
  | with_reducible refine rd_make ?_
  | with_reducible refine rd_meth ?_
  | with_reducible refine rd_raise ?_
  | with_reducible refine rd_rev ?_
  | with_reducible refine rd_try ?_
  | with_reducible refine rd_dropX ?_
  | with_reducible refine rd_setX ?_
  | with_reducible refine rd_ifX ?_
  | with_reducible refine rd_makeX ?_
  | with_reducible refine rd_methX ?_
  | with_reducible refine rd_sub ?_
  | with_reducible refine rd_sl ?_
  | with_reducible refine rd_noPart ?_
  | with_reducible refine rd_part ?_
  | with_reducible refine rd_intx ?_
  | with_reducible refine rd_fs ?_
  | with_reducible refine rd_iteT ?_
  | with_reducible refine rd_iteF ?_
  | with_reducible refine rd_iteNT ?_
  | with_reducible refine rd_iteNF ?_)
local macro_rules | `(tactic| walk_at "rd") => `(tactic| repeat walk_at "rd1")
local macro_rules | `(tactic| walk_at "rs1") => `(tactic| first
  | with_reducible refine rd_seq ?_
  | with_reducible refine rd_next ?_
  | with_reducible refine rd_test ?_
  | with_reducible refine rd_tB ?_
  | with_reducible refine rd_and ?_
  | with_reducible refine rd_or ?_
  | with_reducible refine rd_not ?_
  | with_reducible refine rd_andV ?_
  | with_reducible refine rd_orV ?_
  | with_reducible refine rd_notV ?_
  | with_reducible refine rd_op ?_
  | with_reducible refine rd_un ?_
  | with_reducible refine rd_rU ?_
  | with_reducible refine rd_chain ?_
  | with_reducible refine rd_ifE ?_
  | ((with_reducible refine rd_var (v := ?_) ?rv ?_); (case rv => rfl))
  | with_reducible refine rd_c ?_
  | with_reducible refine rd_I0 ?_
  | ((with_reducible refine rd_I ?rs ?_); (case rs => first | (show (0 : Int) < _; decide) | (refine Or.inl ⟨?_, ?_⟩ <;> decide) | (refine Or.inr ⟨?_, ?_⟩ <;> decide) | (refine And.intro ?_ ?_ <;> decide)))
  | ((with_reducible refine rd_eq ?rv ?_); (case rv => rfl))
  | ((with_reducible refine rd_ne ?rv ?_); (case rv => rfl))
  | with_reducible refine rd_bl ?_
  | with_reducible refine rd_blp ?_
  | with_reducible refine rd_and1 ?_
  | with_reducible refine rd_ret ?_
  | with_reducible refine rd_retN ?_
  | with_reducible refine rd_drop ?_
  | with_reducible refine rd_asg ?_
  | with_reducible refine rd_gName ?_
  | with_reducible refine rd_cons ?_
  | with_reducible refine rd_nil ?_
  | with_reducible refine rd_cb ?_
  | with_reducible refine rd_call ?_
  | with_reducible refine rd_tup ?_
  | with_reducible refine rd_lst ?_
  | with_reducible refine rd_fld ?_
  | with_reducible refine rd_sfld ?_
  | with_reducible refine rd_sfldaug ?_
  | with_reducible refine rd_rng1 ?_
  | with_reducible refine rd_rng2 ?_
  | with_reducible refine rd_iList ?_
  | with_reducible refine rd_bm ?_
  | with_reducible refine rd_bm0 ?_
  | with_reducible refine rd_make ?_
  | with_reducible refine rd_meth ?_
  | with_reducible refine rd_raise ?_
  | with_reducible refine rd_rev ?_
  | with_reducible refine rd_dropX ?_
  | with_reducible refine rd_setX ?_
  | with_reducible refine rd_makeX ?_
  | with_reducible refine rd_methX ?_
  | with_reducible refine rd_sub ?_
  | with_reducible refine rd_sl ?_
  | with_reducible refine rd_noPart ?_
  | with_reducible refine rd_part ?_
  | with_reducible refine rd_intx ?_
  | with_reducible refine rd_fs ?_
  | with_reducible refine rd_iteT ?_
  | with_reducible refine rd_iteF ?_
  | with_reducible refine rd_iteNT ?_
  | with_reducible refine rd_iteNF ?_)
local macro_rules | `(tactic| walk_at "rs") => `(tactic| repeat walk_at "rs1")
def spWord (z : Str) : Sp := fun vs H Q _ => ∃ p g, vs = [.ref p] ∧ H p = some (.tup (Sg.vs g)) ∧ Q (.bl (g.isW z)) H
theorem sc_is_whole_within : FnScope ["value", "least", "most"] ["value", "least", "most"] (defScope s_is_whole_within) := ⟨rfl, rfl, rfl, by decide +kernel, rfl, by decide +kernel, by decide +kernel⟩
theorem sc_is_good_main : FnScope ["stage"] ["stage"] (defScope s_is_good_main) := ⟨rfl, rfl, rfl, by decide +kernel, rfl, by decide +kernel, by decide +kernel⟩
theorem sc_is_good_over : FnScope ["stage"] ["stage"] (defScope s_is_good_over) := ⟨rfl, rfl, rfl, by decide +kernel, rfl, by decide +kernel, by decide +kernel⟩
theorem sc_is_main : FnScope ["stage"] ["stage"] (defScope s_is_main) := ⟨rfl, rfl, rfl, by decide +kernel, rfl, by decide +kernel, by decide +kernel⟩
theorem sc_is_over : FnScope ["stage"] ["stage"] (defScope s_is_over) := ⟨rfl, rfl, rfl, by decide +kernel, rfl, by decide +kernel, by decide +kernel⟩
theorem sc_is_endless : FnScope ["stage"] ["stage"] (defScope s_is_endless) := ⟨rfl, rfl, rfl, by decide +kernel, rfl, by decide +kernel, by decide +kernel⟩
theorem sc_ticks_of : FnScope ["stage"] ["stage"] (defScope s_ticks_of) := ⟨rfl, rfl, rfl, by decide +kernel, rfl, by decide +kernel, by decide +kernel⟩
theorem sc_is_good_stage : FnScope ["stage"] ["stage"] (defScope s_is_good_stage) := ⟨rfl, rfl, rfl, by decide +kernel, rfl, by decide +kernel, by decide +kernel⟩
theorem sc_may_stand_behind : FnScope ["later", "earlier"] ["later", "earlier"] (defScope s_may_stand_behind) := ⟨rfl, rfl, rfl, by decide +kernel, rfl, by decide +kernel, by decide +kernel⟩
theorem sc_check_each : FnScope ["stages", "number", "stage"] ["stages"] (defScope s_check_each) := ⟨rfl, rfl, rfl, by decide +kernel, rfl, by decide +kernel, by decide +kernel⟩
theorem sc_check_order : FnScope ["stages", "number"] ["stages"] (defScope s_check_order) := ⟨rfl, rfl, rfl, by decide +kernel, rfl, by decide +kernel, by decide +kernel⟩
theorem sc_read_stages : FnScope ["stages"] ["stages"] (defScope s_read_stages) := ⟨rfl, rfl, rfl, by decide +kernel, rfl, by decide +kernel, by decide +kernel⟩
theorem sc_law_cell : FnScope ["_law_script", "_law_k"] ["_law_script", "_law_k"] (defScope s_law_cell) := ⟨rfl, rfl, rfl, by decide +kernel, rfl, by decide +kernel, by decide +kernel⟩
theorem sc_law_mix : FnScope ["_law_script", "_law_k", "_law_number"] ["_law_script", "_law_k"] (defScope s_law_mix) := ⟨rfl, rfl, rfl, by decide +kernel, rfl, by decide +kernel, by decide +kernel⟩
theorem sc_law_stages : FnScope ["_law_script", "_law_k", "_law_found", "_law_j", "_law_number", "_law_way"] ["_law_script", "_law_k"] (defScope s_law_stages) := ⟨rfl, rfl, rfl, by decide +kernel, rfl, by decide +kernel, by decide +kernel⟩
theorem sc_law_main : FnScope ["_law_stage", "_law_last", "_law_moves"] ["_law_stage", "_law_last"] (defScope s_law_main) := ⟨rfl, rfl, rfl, by decide +kernel, rfl, by decide +kernel, by decide +kernel⟩
theorem sc_law_good : FnScope ["_law_stages_here", "_law_k", "_law_stage", "_law_last"] ["_law_stages_here"] (defScope s_law_good) := ⟨rfl, rfl, rfl, by decide +kernel, rfl, by decide +kernel, by decide +kernel⟩
theorem sc_Side_begin_stage : FnScope ["self", "number", "stage"] ["self", "number"] (defScope s_Side_begin_stage) := ⟨rfl, rfl, rfl, by decide +kernel, rfl, by decide +kernel, by decide +kernel⟩
theorem sc_Side_init : FnScope ["self", "stages"] ["self", "stages"] (defScope s_Side_init) := ⟨rfl, rfl, rfl, by decide +kernel, rfl, by decide +kernel, by decide +kernel⟩
theorem sc_Clock_init : FnScope ["self", "stages", "own_stages"] ["self", "stages"] (defScope s_Clock_init) := ⟨rfl, rfl, rfl, by decide +kernel, rfl, by decide +kernel, by decide +kernel⟩
theorem sc_law : FnScope ["_law_script", "_law_stages_here", "_law_number", "_law_at", "_law_part", "_law_spot", "_law_some", "_law_worth", "_law_more", "_law_handed", "_law_kept", "e", "_law_good_here"] ["_law_script"] (defScope s_law) := ⟨rfl, rfl, rfl, by decide +kernel, rfl, by decide +kernel, by decide +kernel⟩
theorem ok_is_main (T : Txt K mg a) : Has P w K mg base CX0 1 "is_main" ["stage"] (spWord "main") := by
  refine T.f_is_main.has fun f fd F => F.ok sc_is_main (fun vs H Q E h => ?_) (fun cdv A outer s H vs Q E hr h => ?_)
  · obtain ⟨p, g, rfl, _⟩ := h; rfl
  · obtain ⟨p, g, rfl, hp, k⟩ := h
    refine ⟨_, (pss_one (ps_ret (pe_cmpR op_eq (pe_ix ix_tup (pv 0) pe_int (fun _ _ => rfl)) pe_str (nomark _)))), ?_⟩
    walk_at "rd"
    refine rd_ixT (SqT.of hp) g.at0 ?_
    walk_at "rd"
    exact k
theorem ok_is_over (T : Txt K mg a) : Has P w K mg base CX0 1 "is_over" ["stage"] (spWord "over") := by
  refine T.f_is_over.has fun f fd F => F.ok sc_is_over (fun vs H Q E h => ?_) (fun cdv A outer s H vs Q E hr h => ?_)
  · obtain ⟨p, g, rfl, _⟩ := h; rfl
  · obtain ⟨p, g, rfl, hp, k⟩ := h
    refine ⟨_, (pss_one (ps_ret (pe_cmpR op_eq (pe_ix ix_tup (pv 0) pe_int (fun _ _ => rfl)) pe_str (nomark _)))), ?_⟩
    walk_at "rd"
    refine rd_ixT (SqT.of hp) g.at0 ?_
    walk_at "rd"
    exact k
def spEndless : Sp := fun vs H Q _ => ∃ p g, vs = [.ref p] ∧ H p = some (.tup (Sg.vs g)) ∧ Q (.bl g.endless) H
theorem ok_is_endless (T : Txt K mg a) : Has P w K mg base CX0 2 "is_endless" ["stage"] spEndless := by
  have G_is_main := ok_is_main (P := P) (w := w) (base := base) T
  refine T.f_is_endless.has fun f fd F => F.ok sc_is_endless (fun vs H Q E h => ?_) (fun cdv A outer s H vs Q E hr h => ?_)
  · obtain ⟨p, g, rfl, _⟩ := h; rfl
  · obtain ⟨p, g, rfl, hp, k⟩ := h
    refine ⟨_, (pss_one (ps_ret (pe_and (pe_callH G_is_main hr (pa_cons (pv 0) pa_nil)) (pe_one (pe_cmpR op_isN (pe_ix ix_tup (pv 0) pe_int (fun _ _ => rfl)) pe_non (nomark _)))))), ?_⟩
    walk_at "rd"
    refine ⟨p, g, rfl, hp, ?_⟩
    walk_at "rd"
    refine rd_iteB (fun hm => ?_) (fun hm => ?_)
    · walk_at "rd"
      refine rd_ixT (SqT.of hp) g.at1 ?_
      walk_at "rd"
      have e : g.endless = decide (g.one = V.non) := by simp [Sg.endless, hm]
      rw [← e]
      exact k
    · have e : g.endless = false := by simp [Sg.endless, hm]
      rw [e] at k
      exact k
def spTicks : Sp := fun vs H Q _ => ∃ p g, vs = [.ref p] ∧ H p = some (.tup (Sg.vs g)) ∧ Q (.int g.t) H
theorem ok_ticks_of (T : Txt K mg a) : Has P w K mg base CX0 1 "ticks_of" ["stage"] spTicks := by
  refine T.f_ticks_of.has fun f fd F => F.ok sc_ticks_of (fun vs H Q E h => ?_) (fun cdv A outer s H vs Q E hr h => ?_)
  · obtain ⟨p, g, rfl, _⟩ := h; rfl
  · obtain ⟨p, g, rfl, hp, k⟩ := h
    refine ⟨_, (pss_one (ps_ret (pe_ix ix_tup (pv 0) pe_int (fun _ _ => rfl)))), ?_⟩
    walk_at "rd"
    exact rd_ixT (SqT.of hp) g.at2 k
theorem kit_self {t : Value} : PySem.W.kitOne K t t = some true := by
  unfold PySem.W.kitOne
  rw [if_pos (beq_self_eq_true t)]
def spWhole : Sp := fun vs H Q _ => ∃ i lo hi, vs = [.int i, .int lo, .int hi] ∧ Q (.bl (inn i lo hi)) H
theorem ok_is_whole_within (T : Txt K mg a) : Has P w K mg base CX0 1 "is_whole_within" ["value", "least", "most"] spWhole := by
  refine T.f_is_whole_within.has fun f fd F => F.ok sc_is_whole_within (fun vs H Q E h => ?_) (fun cdv A outer s H vs Q E hr h => ?_)
  · obtain ⟨i, lo, hi, rfl, _⟩ := h; rfl
  · obtain ⟨i, lo, hi, rfl, k⟩ := h
    refine ⟨_, (pss_cons (ps_if (PW.pt (pw_or (pt_not (pt_val (pe_callB call_isinst (by rfl) T.n_isinstance boot_isinstance (pa_cons (pv 0) (pa_cons (pe_bT rfl T.n_int boot_int) pa_nil))) (fun _ => rfl))) (pw_or1 (pt_val (pe_callB call_isinst (by rfl) T.n_isinstance boot_isinstance (pa_cons (pv 0) (pa_cons (pe_bT rfl T.n_bool boot_bool) pa_nil))) (fun _ => rfl))))) (pss_one (ps_ret pe_bl)) pss_nil) (pss_one (ps_ret (pe_chain op_le op_le (pv 1) (pv 0) (pv 2))))), ?_⟩
    walk_at "rd"
    refine ⟨_, _, _, _, true, rfl, rfl, TyOf.int i, kit_self, ?_⟩
    walk_at "rd"
    refine ⟨_, _, _, _, false, rfl, rfl, TyOf.int i, T.k0, ?_⟩
    walk_at "rd"
    refine rd_ite (fun h1 => ?_) (fun h1 => ?_)
    · walk_at "rd"
      have e : inn i lo hi = decide (i ≤ hi) := by simp [inn, h1]
      rw [← e]
      exact k
    · have e : inn i lo hi = false := by simp [inn, h1]
      rw [e] at k
      exact k
def spGood (fn : Sg → Bool) : Sp := fun vs H Q _ => ∃ p g, vs = [.ref p] ∧ H p = some (.tup (Sg.vs g)) ∧ Q (.bl (fn g)) H
theorem ok_is_good_main (T : Txt K mg a) : Has P w K mg base CX0 2 "is_good_main" ["stage"] (spGood goodMain) := by
  have G_is_whole_within := ok_is_whole_within (P := P) (w := w) (base := base) T
  refine T.f_is_good_main.has fun f fd F => F.ok sc_is_good_main (fun vs H Q E h => ?_) (fun cdv A outer s H vs Q E hr h => ?_)
  · obtain ⟨p, g, rfl, _⟩ := h; rfl
  · obtain ⟨p, g, rfl, hp, k⟩ := h
    refine ⟨_, (pss_cons (ps_if (pt_cmpR op_ne (pe_callB call_len_seq (by rfl) T.n_len PySem.boot_len (pa_cons (pv 0) pa_nil)) pe_int (nomark _)) (pss_one (ps_ret pe_bl)) pss_nil) (pss_cons (ps_if (PW.pt (pw_and (pt_cmpR op_notN (pe_ix ix_tup (pv 0) pe_int (fun _ _ => rfl)) pe_non (nomark _)) (pw_and1 (pt_not (pt_val (pe_callH G_is_whole_within hr (pa_cons (pe_ix ix_tup (pv 0) pe_int (fun _ _ => rfl)) (pa_cons pe_int (pa_cons (pe_gI rfl T.c_MOST_MOVES) pa_nil)))) (fun _ => rfl)))))) (pss_one (ps_ret pe_bl)) pss_nil) (pss_cons (ps_if (pt_not (pt_val (pe_callH G_is_whole_within hr (pa_cons (pe_ix ix_tup (pv 0) pe_int (fun _ _ => rfl)) (pa_cons pe_int (pa_cons (pe_gI rfl T.c_MOST_TICKS) pa_nil)))) (fun _ => rfl))) (pss_one (ps_ret pe_bl)) pss_nil) (pss_one (ps_ret (pe_and (pe_cmpR op_in_seq (pe_ix ix_tup (pv 0) pe_int (fun _ _ => rfl)) (pe_gR rfl T.g_WAYS) (by with_unfolding_all rfl)) (pe_one (pe_callH G_is_whole_within hr (pa_cons (pe_ix ix_tup (pv 0) pe_int (fun _ _ => rfl)) (pa_cons pe_int (pa_cons (pe_gI rfl T.c_MOST_EXTRA) pa_nil))))))))))), ?_⟩
    walk_at "rd"
    refine ⟨p, _, rfl, .inr (SqT.of hp), ?_⟩
    walk_at "rd"
    cases g with
    | three z q t =>
      refine rd_iteN (fun _ => ?_) (fun h => by cases h)
      walk_at "rd"
      exact k
    | five z m t w e =>
      refine rd_iteN (fun h => (h rfl).elim) (fun _ => ?_)
      walk_at "rd"
      refine rd_ixT (SqT.of hp) (Sg.at1 _) ?_
      walk_at "rd"
      have rest : mOk m = true →
          (tSeq (tIfS (tNot (tB (tCall spWhole [] E0 (tCons (tOp (rIxT K) (tVar 0) (tC (.int 2))) (tCons (tC (.int 1)) (tCons (tC (.int 1000000)) tNil)))))) (tRet (tC (.bl false))) tNext)
            (tRet (tAndV (tOp (rIn K false) (tOp (rIxT K) (tVar 0) (tC (.int 3))) (tC (.ref a.aW))) (tCall spWhole [] E0 (tCons (tOp (rIxT K) (tVar 0) (tC (.int 4))) (tCons (tC (.int 0)) (tCons (tC (.int 1000000)) tNil)))))))
            { nx := fun _ H' => Q .non H', rt := Q } (start ["stage"] [.ref p]) H := fun hm => by
        walk_at "rd"
        refine rd_ixT (SqT.of hp) (Sg.at2 _) ?_
        walk_at "rd"
        refine ⟨t, 1, 1000000, rfl, ?_⟩
        walk_at "rd"
        refine rd_iteNB (fun ht => ?_) (fun ht => ?_)
        · walk_at "rd"
          have e1 : goodMain (.five z m t w e) = false := by simp only [goodMain, hm, ht, Bool.and_false, Bool.false_and, Bool.true_and]
          rw [e1] at k
          exact k
        · walk_at "rd"
          refine rd_ixT (v := .str w) (SqT.of hp) rfl ?_
          walk_at "rd"
          refine ⟨a.aW, ways, rfl, .inr (T.ways _), rfl, rfl, ?_⟩
          rw [if_neg Bool.false_ne_true]
          walk_at "rd"
          refine rd_iteB (fun hw => ?_) (fun hw => ?_)
          · walk_at "rd"
            refine rd_ixT (v := .int e) (SqT.of hp) rfl ?_
            walk_at "rd"
            refine ⟨e, 0, 1000000, rfl, ?_⟩
            have e1 : goodMain (.five z m t w e) = inn e 0 1000000 := by simp only [goodMain, hm, ht, hw, Bool.true_and]
            rw [e1] at k
            exact k
          · have e1 : goodMain (.five z m t w e) = false := by simp only [goodMain, hm, ht, hw, Bool.and_false, Bool.false_and, Bool.true_and]
            rw [e1] at k
            exact k
      cases m with
      | none =>
        refine rd_iteN (fun h => (h rfl).elim) (fun _ => ?_)
        exact rest rfl
      | some n =>
        refine rd_iteN (fun _ => ?_) (fun h => by cases h)
        walk_at "rd"
        refine rd_ixT (SqT.of hp) (Sg.at1 _) ?_
        walk_at "rd"
        refine ⟨n, 1, 200, rfl, ?_⟩
        walk_at "rd"
        refine rd_iteNB (fun hn => ?_) (fun hn => ?_)
        · walk_at "rd"
          have e1 : goodMain (.five z (some n) t w e) = false := by simp only [goodMain, mOk, hn, Bool.false_and]
          rw [e1] at k
          exact k
        · exact rest hn
theorem ok_is_good_over (T : Txt K mg a) : Has P w K mg base CX0 2 "is_good_over" ["stage"] (spGood goodOver) := by
  have G_is_whole_within := ok_is_whole_within (P := P) (w := w) (base := base) T
  refine T.f_is_good_over.has fun f fd F => F.ok sc_is_good_over (fun vs H Q E h => ?_) (fun cdv A outer s H vs Q E hr h => ?_)
  · obtain ⟨p, g, rfl, _⟩ := h; rfl
  · obtain ⟨p, g, rfl, hp, k⟩ := h
    refine ⟨_, (pss_cons (ps_if (pt_cmpR op_ne (pe_callB call_len_seq (by rfl) T.n_len PySem.boot_len (pa_cons (pv 0) pa_nil)) pe_int (nomark _)) (pss_one (ps_ret pe_bl)) pss_nil) (pss_one (ps_ret (pe_and (pe_callH G_is_whole_within hr (pa_cons (pe_ix ix_tup (pv 0) pe_int (fun _ _ => rfl)) (pa_cons pe_int (pa_cons (pe_gI rfl T.c_MOST_PERIODS) pa_nil)))) (pe_one (pe_callH G_is_whole_within hr (pa_cons (pe_ix ix_tup (pv 0) pe_int (fun _ _ => rfl)) (pa_cons pe_int (pa_cons (pe_gI rfl T.c_MOST_TICKS) pa_nil))))))))), ?_⟩
    walk_at "rd"
    refine ⟨p, _, rfl, .inr (SqT.of hp), ?_⟩
    walk_at "rd"
    cases g with
    | five z m t w e =>
      refine rd_iteN (fun _ => ?_) (fun h => by cases h)
      walk_at "rd"
      exact k
    | three z q t =>
      refine rd_iteN (fun h => (h rfl).elim) (fun _ => ?_)
      walk_at "rd"
      refine rd_ixT (SqT.of hp) (Sg.at1 _) ?_
      walk_at "rd"
      refine ⟨q, 1, 200, rfl, ?_⟩
      walk_at "rd"
      refine rd_iteB (fun hq => ?_) (fun hq => ?_)
      · walk_at "rd"
        refine rd_ixT (SqT.of hp) (Sg.at2 _) ?_
        walk_at "rd"
        refine ⟨t, 1, 1000000, rfl, ?_⟩
        have e1 : goodOver (.three z q t) = inn t 1 1000000 := by simp only [goodOver, hq, Bool.true_and]
        rw [e1] at k
        exact k
      · have e1 : goodOver (.three z q t) = false := by simp only [goodOver, hq, Bool.false_and]
        rw [e1] at k
        exact k
theorem ok_is_good_stage (T : Txt K mg a) : Has P w K mg base CX0 3 "is_good_stage" ["stage"] (spGood goodSg) := by
  have G_is_main := ok_is_main (P := P) (w := w) (base := base) T
  have G_is_over := ok_is_over (P := P) (w := w) (base := base) T
  have G_is_good_main := ok_is_good_main (P := P) (w := w) (base := base) T
  have G_is_good_over := ok_is_good_over (P := P) (w := w) (base := base) T
  refine T.f_is_good_stage.has fun f fd F => F.ok sc_is_good_stage (fun vs H Q E h => ?_) (fun cdv A outer s H vs Q E hr h => ?_)
  · obtain ⟨p, g, rfl, _⟩ := h; rfl
  · obtain ⟨p, g, rfl, hp, k⟩ := h
    refine ⟨_, (pss_cons (ps_if (PW.pt (pw_or (pt_not (pt_val (pe_callB call_isinst (by rfl) T.n_isinstance boot_isinstance (pa_cons (pv 0) (pa_cons (pe_bT rfl T.n_tuple boot_tuple) pa_nil))) (fun _ => rfl))) (pw_or1 (pt_cmpR op_eq (pe_callB call_len_seq (by rfl) T.n_len PySem.boot_len (pa_cons (pv 0) pa_nil)) pe_int (nomark _))))) (pss_one (ps_ret pe_bl)) pss_nil) (pss_cons (ps_if (pt_val (pe_callH G_is_main hr (pa_cons (pv 0) pa_nil)) (fun _ => rfl)) (pss_one (ps_ret (pe_callH G_is_good_main hr (pa_cons (pv 0) pa_nil)))) pss_nil) (pss_one (ps_ret (pe_and (pe_callH G_is_over hr (pa_cons (pv 0) pa_nil)) (pe_one (pe_callH G_is_good_over hr (pa_cons (pv 0) pa_nil)))))))), ?_⟩
    walk_at "rd"
    refine ⟨_, _, _, _, true, rfl, rfl, TyOf.tup hp, kit_self, ?_⟩
    walk_at "rd"
    refine ⟨p, _, rfl, .inr (SqT.of hp), ?_⟩
    walk_at "rd"
    refine rd_ite (fun h => by cases g <;> cases h) (fun _ => ?_)
    walk_at "rd"
    refine ⟨p, g, rfl, hp, ?_⟩
    walk_at "rd"
    refine rd_iteB (fun hm => ?_) (fun hm => ?_)
    · walk_at "rd"
      refine ⟨p, g, rfl, hp, ?_⟩
      have e1 : goodSg g = goodMain g := by simp only [goodSg, hm, if_true]
      rw [e1] at k
      exact k
    · walk_at "rd"
      refine ⟨p, g, rfl, hp, ?_⟩
      walk_at "rd"
      refine rd_iteB (fun ho => ?_) (fun ho => ?_)
      · walk_at "rd"
        refine ⟨p, g, rfl, hp, ?_⟩
        have e1 : goodSg g = goodOver g := by simp only [goodSg, hm, ho, Bool.true_and, Bool.false_eq_true, if_false]
        rw [e1] at k
        exact k
      · have e1 : goodSg g = false := by simp only [goodSg, hm, ho, Bool.false_and, Bool.false_eq_true, if_false]
        rw [e1] at k
        exact k
def spMay : Sp := fun vs H Q _ => ∃ p q l e, vs = [.ref p, .ref q] ∧ H p = some (.tup (Sg.vs l)) ∧ H q = some (.tup (Sg.vs e)) ∧ Q (.bl (may l e)) H
theorem ok_may_stand_behind (T : Txt K mg a) : Has P w K mg base CX0 3 "may_stand_behind" ["later", "earlier"] spMay := by
  have G_is_over := ok_is_over (P := P) (w := w) (base := base) T
  have G_is_endless := ok_is_endless (P := P) (w := w) (base := base) T
  refine T.f_may_stand_behind.has fun f fd F => F.ok sc_may_stand_behind (fun vs H Q E h => ?_) (fun cdv A outer s H vs Q E hr h => ?_)
  · obtain ⟨p, q, l, e, rfl, _⟩ := h; rfl
  · obtain ⟨p, q, l, e, rfl, hp, hq, k⟩ := h
    refine ⟨_, (pss_cons (ps_if (pt_val (pe_callH G_is_over hr (pa_cons (pv 1) pa_nil)) (fun _ => rfl)) (pss_one (ps_ret pe_bl)) pss_nil) (pss_one (ps_ret (pe_or (pe_callH G_is_over hr (pa_cons (pv 0) pa_nil)) (pe_one (pe_not (pe_callH G_is_endless hr (pa_cons (pv 1) pa_nil)))))))), ?_⟩
    walk_at "rd"
    refine ⟨q, e, rfl, hq, ?_⟩
    walk_at "rd"
    refine rd_iteB (fun ho => ?_) (fun ho => ?_)
    · walk_at "rd"
      have e1 : may l e = false := by simp only [may, ho, Bool.not_true, Bool.false_and]
      rw [e1] at k
      exact k
    · walk_at "rd"
      refine ⟨p, l, rfl, hp, ?_⟩
      walk_at "rd"
      refine rd_iteB (fun hl => ?_) (fun hl => ?_)
      · have e1 : may l e = true := by simp only [may, ho, hl, Bool.not_false, Bool.true_and, Bool.true_or]
        rw [e1] at k
        exact k
      · walk_at "rd"
        refine ⟨q, e, rfl, hq, ?_⟩
        walk_at "rd"
        have e1 : may l e = !e.endless := by simp only [may, ho, hl, Bool.not_false, Bool.true_and, Bool.false_or]
        rw [e1] at k
        exact k
def refs (ps : List Addr) : List V := ps.map V.ref
theorem refs_len (ps : List Addr) : (refs ps).length = ps.length := List.length_map ..
theorem refs_get {ps : List Addr} {i : Nat} {v : V} (h : (refs ps)[i]? = some v) : ∃ p, ps[i]? = some p ∧ v = .ref p := by
  unfold refs at h
  rw [List.getElem?_map] at h
  cases e : ps[i]? with
  | none => rw [e] at h; cases h
  | some p => rw [e] at h; exact ⟨p, rfl, (Option.some.inj h).symm⟩
/-- the tuples at ps are the stages gs -/
structure StAt (H : Hp) (ps : List Addr) (gs : List Sg) : Prop where
  len : ps.length = gs.length
  at_ : ∀ (i : Nat) p g, ps[i]? = some p → gs[i]? = some g → H p = some (.tup g.vs)
theorem StAt.same {H H' : Hp} {ps : List Addr} {gs : List Sg} (x : StAt H ps gs) (s : Same H H') : StAt H' ps gs := ⟨x.len, fun i p g h1 h2 => s _ _ (x.at_ i p g h1 h2)⟩
theorem StAt.get {H : Hp} {ps : List Addr} {gs : List Sg} (x : StAt H ps gs) {i : Nat} {p : Addr} (h : ps[i]? = some p) : ∃ g, gs[i]? = some g ∧ H p = some (.tup g.vs) := by
  have hi : i < gs.length := by rw [← x.len]; exact (List.getElem?_eq_some_iff.mp h).1
  exact ⟨gs[i], List.getElem?_eq_getElem hi, x.at_ i p _ h (List.getElem?_eq_getElem hi)⟩
theorem same_upd {H : Hp} {t : Addr} {o : HO} (h : H t = none) : Same H (upd H t o) := fun b u e => by rw [upd_ne (ne_of_none e h)]; exact e
def eachOk (gs : List Sg) : Prop := ∀ (j : Nat) g, gs[j]? = some g → goodSg g = true
def orderOk (gs : List Sg) : Prop := (∀ (j : Nat) e l, gs[j]? = some e → gs[j + 1]? = some l → may l e = true) ∧ ∀ g, gs[gs.length - 1]? = some g → (g.isW "over" = true ∨ g.endless = true)
def spCheck (a : Ads) (K : PySem.W.Frag) (fn : List Sg → Prop) : Sp := fun vs H Q E => ∃ l ps gs, vs = [.ref l] ∧ SqL K H l (refs ps) ∧ StAt H ps gs ∧ ps.length ≤ 5 ∧ 1 ≤ ps.length ∧
  (fn gs → ∀ H', Same H H' → Q .non H') ∧ (¬ fn gs → ∀ H', Same H H' → E (.ref a.xBadStages) none H')
theorem str_len_small {i : Int} (h0 : 0 ≤ i) (h1 : i ≤ 9) : (toString i : Str).length ≤ 1 := by
  have : i = 0 ∨ i = 1 ∨ i = 2 ∨ i = 3 ∨ i = 4 ∨ i = 5 ∨ i = 6 ∨ i = 7 ∨ i = 8 ∨ i = 9 := by omega
  rcases this with rfl | rfl | rfl | rfl | rfl | rfl | rfl | rfl | rfl | rfl <;> decide +kernel
theorem log_small {i : Int} (h0 : 0 ≤ i) (h1 : i ≤ 9) : i.natAbs.log2 < 1920 := by
  have : i = 0 ∨ i = 1 ∨ i = 2 ∨ i = 3 ∨ i = 4 ∨ i = 5 ∨ i = 6 ∨ i = 7 ∨ i = 8 ∨ i = 9 := by omega
  rcases this with rfl | rfl | rfl | rfl | rfl | rfl | rfl | rfl | rfl | rfl <;> decide +kernel
theorem ok_check_each (T : Txt K mg a) : Has P w K mg base (CX1 P w) 4 "check_each" ["stages"] (spCheck a K eachOk) := by
  have G_is_good_stage := ok_is_good_stage (P := P) (w := w) (base := base) T
  refine T.f_check_each.has fun f fd F => F.ok1 sc_check_each (fun vs H Q E h => ?_) (fun cdv A outer s H vs Q E hr h => ?_)
  · obtain ⟨l, ps, gs, rfl, _⟩ := h; rfl
  · obtain ⟨l, ps, gs, rfl, hl, hg, h5, h1, kq, ke⟩ := h
    refine ⟨_, (pss_one (ps_for PassesOwn.leaving rfl (pi_enum rfl T.n_enumerate (pa_cons (pv 0) pa_nil)) (pg_tup rfl (pgs_cons (pg_name (i := 1) sc_check_each.nd rfl (Or.inl rfl)) (pgs_cons (pg_name (i := 2) sc_check_each.nd rfl (Or.inl rfl)) pgs_nil))) (pss_one (ps_if (pt_not (pt_val (pe_callH G_is_good_stage hr (pa_cons (pv 2) pa_nil)) (fun _ => rfl))) (pss_one (ps_raise leaves_cx rfl T.x_BadStages.is rfl T.g_BadStages (pa_cons (pe_fstr (pf_str (pf_int (pv 1) (pf_str pf_nil)))) pa_nil))) pss_nil)))), ?_⟩
    refine ⟨_, rfl, l, rfl, ⟨_, hl⟩, for_enum (K := K) (a := l) (xs := refs ps) (fun i σ H1 => (∃ v1 v2, σ = [some (.ref l), v1, v2]) ∧ Same H H1 ∧ ∀ (j : Nat) g, j < i → gs[j]? = some g → goodSg g = true)
      ⟨⟨none, none, rfl⟩, Same.refl _, fun j g hj => absurd hj (Nat.not_lt_zero _)⟩ (fun i σ H1 _ hp => hp.2.1.seq hl) ?_ ?_⟩
    · rintro i x t σ H1 hx ⟨⟨v1, v2, rfl⟩, sm, hall⟩ ht
      obtain ⟨p, hp, rfl⟩ := refs_get hx
      obtain ⟨g, hgi, hpt⟩ := hg.get hp
      have hil : i < ps.length := (List.getElem?_eq_some_iff.mp hp).1
      have sm2 : Same H (upd H1 t (.tup [.int i, .ref p])) := sm.trans (same_upd ht)
      refine ⟨t, _, rfl, SqT.of upd_same, rfl, _, _, rfl, _, _, rfl, rfl, ?_⟩
      walk_at "rd"
      refine ⟨p, g, rfl, sm2 _ _ hpt, ?_⟩
      walk_at "rd"
      refine rd_iteNB (fun hb => ?_) (fun hb => ?_)
      · have h0 : (0 : Int) ≤ i := Int.natCast_nonneg i
        have h9 : (i : Int) ≤ 9 := by omega
        have s1 : (Str.empty ++ ("stage " : Str)).length ≤ 6 := by decide +kernel
        have s3 := str_len_small h0 h9
        have s2 : (Str.ofString " is none of those that there are").length ≤ 40 := by decide +kernel
        have hz : 1000 ≤ sizeLine := by decide
        refine ⟨Nat.le_trans s1 (by decide), _, rfl, _, rfl, log_small h0 h9, by rw [strLen_append]; omega, by rw [strLen_append, strLen_append]; omega, by rw [strLen_append, strLen_append]; omega, (by show 1 ≤ sizeLine; decide), ?_⟩
        exact ke (fun z => by have z2 := z i g hgi; rw [hb] at z2; cases z2) _ sm2
      · walk_at "rd"
        exact ⟨⟨_, _, rfl⟩, sm2, fun j g' hj hj' => by
          by_cases e : j = i
          · subst e; rw [hgi] at hj'; cases hj'; exact hb
          · exact hall j g' (by omega) hj'⟩
    · rintro σ H1 ⟨_, sm, hall⟩
      refine kq ?_ H1 sm
      intro j g hj
      exact hall j g (by rw [refs_len, hg.len]; exact (List.getElem?_eq_some_iff.mp hj).1) hj
theorem at_neg1 {α : Type} {xs : List α} {v : α} (h : 1 ≤ xs.length) (e : xs[xs.length - 1]? = some v) : atI xs (-1) = some v := by
  unfold atI ixN
  rw [if_neg (by decide), if_pos (by omega)]
  have : ((-1 : Int) + (xs.length : Int)).toNat = xs.length - 1 := by omega
  simp only [Option.bind_some, this]
  exact e
theorem ok_check_order (T : Txt K mg a) : Has P w K mg base (CX1 P w) 4 "check_order" ["stages"] (spCheck a K orderOk) := by
  have G_is_over := ok_is_over (P := P) (w := w) (base := base) T
  have G_is_endless := ok_is_endless (P := P) (w := w) (base := base) T
  have G_may_stand_behind := ok_may_stand_behind (P := P) (w := w) (base := base) T
  refine T.f_check_order.has fun f fd F => F.ok1 sc_check_order (fun vs H Q E h => ?_) (fun cdv A outer s H vs Q E hr h => ?_)
  · obtain ⟨l, ps, gs, rfl, _⟩ := h; rfl
  · obtain ⟨l, ps, gs, rfl, hl, hg, h5, h1, kq, ke⟩ := h
    refine ⟨_, (pss_cons (ps_for PassesOwn.leaving rfl (pi_range2 rfl T.n_range (pa_cons pe_int (pa_cons (pe_callB call_len_seq (by rfl) T.n_len PySem.boot_len (pa_cons (pv 0) pa_nil)) pa_nil))) (pg_name (i := 1) sc_check_order.nd rfl (Or.inl rfl)) (pss_one (ps_if (pt_not (pt_val (pe_callH G_may_stand_behind hr (pa_cons (pe_ix ix_list (pv 0) (pv 1) (fun _ _ => rfl)) (pa_cons (pe_ix ix_list (pv 0) (pe_op op_sub (pv 1) pe_int) (fun _ _ => rfl)) pa_nil))) (fun _ => rfl))) (pss_one (ps_raise leaves_cx rfl T.x_BadStages.is rfl T.g_BadStages (pa_cons (pe_fstr (pf_str (pf_int (pv 1) (pf_str pf_nil)))) pa_nil))) pss_nil))) (pss_one (ps_if (PW.pt (pw_and (pt_not (pt_val (pe_callH G_is_over hr (pa_cons (pe_ix ix_list (pv 0) (pe_un un_neg pe_int) (fun _ _ => rfl)) pa_nil)) (fun _ => rfl))) (pw_and1 (pt_not (pt_val (pe_callH G_is_endless hr (pa_cons (pe_ix ix_list (pv 0) (pe_un un_neg pe_int) (fun _ _ => rfl)) pa_nil)) (fun _ => rfl)))))) (pss_one (ps_raise leaves_cx rfl T.x_BadStages.is rfl T.g_BadStages (pa_cons pe_str pa_nil))) pss_nil))), ?_⟩
    walk_at "rd"
    refine ⟨l, _, rfl, .inl hl, ?_⟩
    walk_at "rd"
    have hlen : (refs ps).length = ps.length := refs_len ps
    refine ⟨1, _, rfl, ⟨by decide, by decide, by omega, by omega⟩, for_range (lo := 1) (fun i σ H1 => (∃ v1, σ = [some (.ref l), v1]) ∧ H1 = H ∧ ∀ (j : Nat) e l, j < i → gs[j]? = some e → gs[j + 1]? = some l → may l e = true)
      ⟨⟨none, rfl⟩, rfl, fun j e l hj => absurd hj (Nat.not_lt_zero _)⟩ ?_ ?_⟩
    · rintro i σ H1 hi ⟨⟨v1, rfl⟩, rfl, hall⟩
      have hi1 : i + 1 < ps.length := by omega
      obtain ⟨g, hgi, hp⟩ := hg.get (List.getElem?_eq_getElem hi1)
      obtain ⟨g0, hgi0, hp0⟩ := hg.get (List.getElem?_eq_getElem (show i < ps.length by omega))
      have r1 : (refs ps)[i + 1]? = some (.ref ps[i + 1]) := by unfold refs; rw [List.getElem?_map, List.getElem?_eq_getElem hi1]; rfl
      have r0 : (refs ps)[i]? = some (.ref ps[i]) := by unfold refs; rw [List.getElem?_map, List.getElem?_eq_getElem (show i < ps.length by omega)]; rfl
      walk_at "rd"
      refine rd_ixL hl (by rw [show (1 : Int) + (i : Int) = ((i + 1 : Nat) : Int) by omega]; exact atI_nat r1) ?_
      walk_at "rd"
      refine rd_ixL hl (by rw [show (1 : Int) + (i : Int) - 1 = (i : Int) by omega]; exact atI_nat r0) ?_
      walk_at "rd"
      refine ⟨_, _, g, g0, rfl, hp, hp0, ?_⟩
      walk_at "rd"
      refine rd_iteNB (fun hb => ?_) (fun hb => ?_)
      · have h0 : (0 : Int) ≤ 1 + (i : Int) := by omega
        have h9 : (1 : Int) + (i : Int) ≤ 9 := by omega
        have s1 : (Str.empty ++ ("stage " : Str)).length ≤ 6 := by decide +kernel
        have s3 := str_len_small h0 h9
        have s2 : (Str.ofString " may not stand behind the one ahead of it").length ≤ 60 := by decide +kernel
        have hz : 1000 ≤ sizeLine := by decide
        walk_at "rd"
        refine ⟨Nat.le_trans s1 (by decide), _, rfl, _, rfl, log_small h0 h9, by rw [strLen_append]; omega, by rw [strLen_append, strLen_append]; omega, by rw [strLen_append, strLen_append]; omega, (by show 1 ≤ sizeLine; decide), ?_⟩
        exact ke (fun z => by have z2 := z.1 i g0 g hgi0 hgi; rw [hb] at z2; cases z2) _ (Same.refl _)
      · walk_at "rd"
        exact ⟨⟨_, rfl⟩, rfl, fun j e' l' hj h1' h2' => by
          by_cases ej : j = i
          · subst ej; rw [hgi0] at h1'; rw [hgi] at h2'; cases h1'; cases h2'; exact hb
          · exact hall j e' l' (by omega) h1' h2'⟩
    · rintro σ H1 ⟨⟨v1, rfl⟩, rfl, hall⟩
      have hlast : ps.length - 1 < ps.length := by omega
      obtain ⟨g, hgi, hp⟩ := hg.get (List.getElem?_eq_getElem hlast)
      have rl : (refs ps)[(refs ps).length - 1]? = some (.ref ps[ps.length - 1]) := by rw [hlen]; unfold refs; rw [List.getElem?_map, List.getElem?_eq_getElem hlast]; rfl
      have hgl : gs[gs.length - 1]? = some g := by rw [← hg.len]; exact hgi
      walk_at "rd"
      refine rd_ixL hl (at_neg1 (by omega) rl) ?_
      walk_at "rd"
      refine ⟨_, g, rfl, hp, ?_⟩
      walk_at "rd"
      have fin : (g.isW "over" = true ∨ g.endless = true) → orderOk gs := fun hh => ⟨fun j e' l' h1' h2' => hall j e' l' (by
        have := (List.getElem?_eq_some_iff.mp h2').1
        have := hg.len
        omega) h1' h2', fun g' hg' => by rw [hgl] at hg'; cases hg'; exact hh⟩
      refine rd_iteNB (fun ho => ?_) (fun ho => ?_)
      · walk_at "rd"
        refine rd_ixL hl (at_neg1 (by omega) rl) ?_
        walk_at "rd"
        refine ⟨_, g, rfl, hp, ?_⟩
        walk_at "rd"
        refine rd_iteNB (fun hen => ?_) (fun hen => ?_)
        · walk_at "rd"
          refine ⟨by show 1 ≤ sizeLine; decide, ke (fun z => ?_) _ (Same.refl _)⟩
          rcases z.2 g hgl with z | z
          · rw [ho] at z; cases z
          · rw [hen] at z; cases z
        · walk_at "rd"
          exact kq (fin (.inr hen)) _ (Same.refl _)
      · walk_at "rd"
        exact kq (fin (.inl ho)) _ (Same.refl _)
theorem putF_mid {f : Str} {v x : V} : ∀ {l1 l2 : List (Str × V)}, f ∉ l1.map (·.1) → putF f v (l1 ++ (f, x) :: l2) = l1 ++ (f, v) :: l2
  | [], l2, _ => by show (if f = f then (f, v) :: l2 else _) = _; rw [if_pos rfl]; rfl
  | (g, y) :: r, l2, h => by
    have h1 : ¬ g = f := fun z => h (by simp [z])
    have h2 : f ∉ r.map (·.1) := fun z => h (by simp only [List.map_cons]; exact List.mem_cons_of_mem _ z)
    show (if g = f then (g, v) :: (r ++ (f, x) :: l2) else (g, y) :: putF f v (r ++ (f, x) :: l2)) = _
    rw [if_neg h1, putF_mid h2]
    rfl
theorem putF_end {f : Str} {v : V} : ∀ {l : List (Str × V)}, f ∉ l.map (·.1) → putF f v l = l ++ [(f, v)]
  | [], _ => rfl
  | (g, y) :: r, h => by
    have h1 : ¬ g = f := fun z => h (by simp [z])
    have h2 : f ∉ r.map (·.1) := fun z => h (by simp only [List.map_cons]; exact List.mem_cons_of_mem _ z)
    show (if g = f then (g, v) :: r else (g, y) :: putF f v r) = _
    rw [if_neg h1, putF_end h2]
    rfl
theorem lk_mid {f : Str} {x : V} : ∀ {l1 l2 : List (Str × V)}, f ∉ l1.map (·.1) → (l1 ++ (f, x) :: l2).lookup f = some x
  | [], l2, _ => by simp
  | (g, y) :: r, l2, h => by
    have h1 : ¬ f = g := fun z => h (by simp [z])
    have h2 : f ∉ r.map (·.1) := fun z => h (by simp only [List.map_cons]; exact List.mem_cons_of_mem _ z)
    show List.lookup f ((g, y) :: (r ++ (f, x) :: l2)) = some x
    rw [List.lookup_cons, (beq_eq_false_iff_ne.mpr h1)]
    exact lk_mid h2
theorem lk_no {f : Str} : ∀ {l : List (Str × V)}, f ∉ l.map (·.1) → l.lookup f = none
  | [], _ => rfl
  | (g, y) :: r, h => by
    have h1 : ¬ f = g := fun z => h (by simp [z])
    have h2 : f ∉ r.map (·.1) := fun z => h (by simp only [List.map_cons]; exact List.mem_cons_of_mem _ z)
    rw [List.lookup_cons, (beq_eq_false_iff_ne.mpr h1)]
    exact lk_no h2
structure Sd where
  num : Nat
  made : Int
  left : Int
  periods : Int
  moves : Int
  passed : Int
def sideF (t : Addr) (s : Sd) : List (Str × V) := [("stages", .ref t), ("number", .int s.num), ("moves_in_stage", .int s.made), ("left", .int s.left), ("periods", .int s.periods), ("moves", .int s.moves), ("passed", .int s.passed)]
theorem sf_num (t : Addr) (s : Sd) (n : Nat) : putF "number" (.int n) (sideF t s) = sideF t { s with num := n } := putF_mid (l1 := [("stages", V.ref t)]) (by show ("number" : Str) ∉ (["stages"] : List Str); decide +kernel)
theorem sf_made (t : Addr) (s : Sd) (n : Int) : putF "moves_in_stage" (.int n) (sideF t s) = sideF t { s with made := n } := putF_mid (l1 := [("stages", V.ref t), ("number", .int s.num)]) (by show ("moves_in_stage" : Str) ∉ (["stages", "number"] : List Str); decide +kernel)
theorem sf_left (t : Addr) (s : Sd) (n : Int) : putF "left" (.int n) (sideF t s) = sideF t { s with left := n } := putF_mid (l1 := [("stages", V.ref t), ("number", .int s.num), ("moves_in_stage", .int s.made)]) (by show ("left" : Str) ∉ (["stages", "number", "moves_in_stage"] : List Str); decide +kernel)
theorem sf_periods (t : Addr) (s : Sd) (n : Int) : putF "periods" (.int n) (sideF t s) = sideF t { s with periods := n } := putF_mid (l1 := [("stages", V.ref t), ("number", .int s.num), ("moves_in_stage", .int s.made), ("left", .int s.left)]) (by show ("periods" : Str) ∉ (["stages", "number", "moves_in_stage", "left"] : List Str); decide +kernel)
theorem sl_stages (t : Addr) (s : Sd) : (sideF t s).lookup ("stages" : Str) = some (.ref t) := lk_mid (l1 := []) (by simp)
theorem sl_left (t : Addr) (s : Sd) : (sideF t s).lookup ("left" : Str) = some (.int s.left) := lk_mid (l1 := [("stages", V.ref t), ("number", .int s.num), ("moves_in_stage", .int s.made)]) (by show ("left" : Str) ∉ (["stages", "number", "moves_in_stage"] : List Str); decide +kernel)
def sideN : List Str := ["stages", "number", "moves_in_stage", "left", "periods", "moves", "passed"]
theorem sf_len (t : Addr) (s : Sd) : (sideF t s).length < 1000 := by show 7 < 1000; decide
theorem StAt.upd {H : Hp} {ps : List Addr} {gs : List Sg} {p C dx : Addr} {fs : List (Str × V)} {o : HO} (x : StAt H ps gs) (hp : H p = some (.ins C dx fs)) : StAt (upd H p o) ps gs :=
  ⟨x.len, fun i q g h1 h2 => by rw [upd_ne (ne_of (x.at_ i q g h1 h2) hp (by intro z; cases z))]; exact x.at_ i q g h1 h2⟩
def beginS (g : Sg) (n : Nat) (s : Sd) : Sd := match g with
  | .three _ p t => { s with num := n, made := 0, periods := p, left := t }
  | .five _ _ t _ _ => { s with num := n, made := 0, left := s.left + t }
theorem good_five {z : Str} {m : Option Int} {t : Int} {w : Str} {e : Int} (h : goodSg (.five z m t w e) = true) : (Sg.five z m t w e).isW "main" = true ∧ (Sg.five z m t w e).isW "over" = false := by
  unfold goodSg at h
  have hm : (Sg.five z m t w e).isW "main" = true := by
    cases q : (Sg.five z m t w e).isW "main" with
    | true => rfl
    | false => rw [q] at h; simp [goodOver] at h
  refine ⟨hm, ?_⟩
  have hz : V.str z = V.str "main" := of_decide_eq_true hm
  show decide (V.str z = V.str "over") = false
  rw [hz]
  decide +kernel
theorem good_three {z : Str} {p t : Int} (h : goodSg (.three z p t) = true) : (Sg.three z p t).isW "over" = true ∧ (Sg.three z p t).isW "main" = false := by
  unfold goodSg at h
  cases q : (Sg.three z p t).isW "main" with
  | true => rw [q] at h; simp [goodMain] at h
  | false =>
    rw [q] at h
    simp only [Bool.false_eq_true, if_false, Bool.and_eq_true] at h
    exact ⟨h.1, rfl⟩
def spBegin (a : Ads) : Sp := fun vs H Q _ => ∃ p dx t ps gs, ∃ (n : Nat), ∃ g s, vs = [.ref p, .int n] ∧ H p = some (.ins a.cSide dx (sideF t s)) ∧ H t = some (.tup (refs ps)) ∧ StAt H ps gs ∧ gs[n]? = some g ∧ goodSg g = true ∧
  Q .non (upd H p (.ins a.cSide dx (sideF t (beginS g n s))))
theorem ok_begin_stage (T : Txt K mg a) : HasM P w K mg base CX0 2 a.cSide "begin_stage" ["self", "number"] (spBegin a) := by
  have G_is_over := ok_is_over (P := P) (w := w) (base := base) T
  have G_ticks_of := ok_ticks_of (P := P) (w := w) (base := base) T
  refine T.m_Side_begin_stage.has fun f fd F => F.ok sc_Side_begin_stage (fun vs H Q E h => ?_) (fun cdv A outer s H vs Q E hr h => ?_)
  · obtain ⟨p, dx, t, ps, gs, n, g, s, rfl, _⟩ := h; rfl
  · obtain ⟨p, dx, t, ps, gs, n, g, sd, rfl, hp, ht, hs, hn, hgd, k⟩ := h
    refine ⟨_, (pss_cons (ps_fld (pv 0) (pv 1) rfl) (pss_cons (ps_fld (pv 0) pe_int rfl) (pss_cons (ps_set (i := 2) sc_Side_begin_stage.nd rfl (Or.inl rfl) (pe_ix ix_tup (pe_fld (pv 0) rfl) (pv 1) (fun _ _ => rfl))) (pss_one (ps_if (pt_val (pe_callH G_is_over hr (pa_cons (pv 2) pa_nil)) (fun _ => rfl)) (pss_cons (ps_fld (pv 0) (pe_ix ix_tup (pv 2) pe_int (fun _ _ => rfl)) rfl) (pss_one (ps_fld (pv 0) (pe_callH G_ticks_of hr (pa_cons (pv 2) pa_nil)) rfl))) (pss_one (ps_fldaug (pv 0) (pe_callH G_ticks_of hr (pa_cons (pv 2) pa_nil)) in_add))))))), ?_⟩
    have hlt : n < ps.length := by rw [hs.len]; exact (List.getElem?_eq_some_iff.mp hn).1
    have hpg : H ps[n] = some (.tup g.vs) := hs.at_ n _ g (List.getElem?_eq_getElem hlt) hn
    have ntp : t ≠ p := ne_of ht hp (by intro z; cases z)
    have ngp : ps[n] ≠ p := ne_of hpg hp (by intro z; cases z)
    have rn : (refs ps)[n]? = some (.ref ps[n]) := by unfold refs; rw [List.getElem?_map, List.getElem?_eq_getElem hlt]; rfl
    walk_at "rd"
    refine rd_sfldx hp T.cl_Side T.a_Side_number (sf_len _ _) ?_
    rw [sf_num]
    walk_at "rd"
    refine rd_sfldx upd_same T.cl_Side T.a_Side_moves_in_stage (sf_len _ _) ?_
    rw [sf_made, upd_upd]
    walk_at "rd"
    refine ⟨_, _, _, _, _, rfl, upd_same, T.cl_Side, T.a_Side_stages, sl_stages _ _, ?_⟩
    walk_at "rd"
    refine rd_ixT (SqT.of (by rw [upd_ne ntp]; exact ht)) (atI_nat rn) ?_
    walk_at "rd"
    refine ⟨_, g, rfl, by rw [upd_ne ngp]; exact hpg, ?_⟩
    walk_at "rd"
    cases g with
    | three z q tt =>
      rw [(good_three hgd).1]
      walk_at "rd"
      refine rd_ixT (SqT.of (by rw [upd_ne ngp]; exact hpg)) (Sg.at1 _) ?_
      walk_at "rd"
      refine rd_sfldx upd_same T.cl_Side T.a_Side_periods (sf_len _ _) ?_
      rw [show putF "periods" (Sg.one (.three z q tt)) _ = _ from sf_periods t _ q, upd_upd]
      walk_at "rd"
      refine ⟨_, .three z q tt, rfl, by rw [upd_ne ngp]; exact hpg, ?_⟩
      walk_at "rd"
      refine rd_sfldx upd_same T.cl_Side T.a_Side_left (sf_len _ _) ?_
      rw [sf_left, upd_upd]
      exact k
    | five z m tt ww e =>
      rw [(good_five hgd).2]
      walk_at "rd"
      refine ⟨_, _, _, _, _, rfl, upd_same, T.cl_Side, T.a_Side_left, sl_left _ _, ?_⟩
      walk_at "rd"
      refine ⟨_, .five z m tt ww e, rfl, by rw [upd_ne ngp]; exact hpg, ?_⟩
      refine ⟨_, _, rfl, rfl, _, _, upd_same, sf_len _ _, ?_⟩
      rw [sf_left, upd_upd]
      exact k
def sd0 : Sd := ⟨0, 0, 0, 0, 0, 0⟩
def spSideInit (a : Ads) : Sp := fun vs H Q _ => ∃ p dx t ps gs g, vs = [.ref p, .ref t] ∧ H p = some (.ins a.cSide dx []) ∧ H t = some (.tup (refs ps)) ∧ StAt H ps gs ∧ gs[0]? = some g ∧ goodSg g = true ∧
  Q .non (upd H p (.ins a.cSide dx (sideF t (beginS g 0 sd0))))
theorem ok_Side_init (T : Txt K mg a) : HasI P w K mg base CX0 3 a.cSide ["self", "stages"] (spSideInit a) := by
  have G_Side_begin_stage := ok_begin_stage (P := P) (w := w) (base := base) T
  refine T.i_Side.has fun f fd F => F.ok sc_Side_init (fun vs H Q E h => ?_) (fun cdv A outer s H vs Q E hr h => ?_)
  · obtain ⟨p, dx, t, ps, gs, g, rfl, _⟩ := h; rfl
  · obtain ⟨p, dx, t, ps, gs, g, rfl, hp, ht, hs, hn, hgd, k⟩ := h
    refine ⟨_, (pss_cons (ps_fld (pv 0) (pv 1) rfl) (pss_cons (ps_fld (pv 0) pe_int rfl) (pss_cons (ps_fld (pv 0) pe_int rfl) (pss_cons (ps_fld (pv 0) pe_int rfl) (pss_cons (ps_fld (pv 0) pe_int rfl) (pss_cons (ps_fld (pv 0) pe_int rfl) (pss_cons (ps_fld (pv 0) pe_int rfl) (pss_one (ps_expr (pe_methH (pv 0) T.cl_Side G_Side_begin_stage hr (pa_cons pe_int pa_nil))))))))))), ?_⟩
    have ntp : t ≠ p := ne_of ht hp (by intro z; cases z)
    walk_at "rd"
    refine rd_sfldx hp T.cl_Side T.a_Side_stages (by show 0 < 1000; decide) ?_
    rw [show putF "stages" (V.ref t) ([] : List (Str × V)) = ([("stages", V.ref t)] : List (Str × V)) from putF_end (by show ("stages" : Str) ∉ ([] : List Str); decide +kernel)]
    walk_at "rd"
    refine rd_sfldx upd_same T.cl_Side T.a_Side_number (by show 1 < 1000; decide) ?_
    rw [show putF "number" (V.int 0) ([("stages", V.ref t)] : List (Str × V)) = ([("stages", V.ref t), ("number", V.int 0)] : List (Str × V)) from putF_end (by show ("number" : Str) ∉ (["stages"] : List Str); decide +kernel), upd_upd]
    walk_at "rd"
    refine rd_sfldx upd_same T.cl_Side T.a_Side_moves_in_stage (by show 2 < 1000; decide) ?_
    rw [show putF "moves_in_stage" (V.int 0) ([("stages", V.ref t), ("number", V.int 0)] : List (Str × V)) = ([("stages", V.ref t), ("number", V.int 0), ("moves_in_stage", V.int 0)] : List (Str × V)) from putF_end (by show ("moves_in_stage" : Str) ∉ (["stages", "number"] : List Str); decide +kernel), upd_upd]
    walk_at "rd"
    refine rd_sfldx upd_same T.cl_Side T.a_Side_left (by show 3 < 1000; decide) ?_
    rw [show putF "left" (V.int 0) ([("stages", V.ref t), ("number", V.int 0), ("moves_in_stage", V.int 0)] : List (Str × V)) = ([("stages", V.ref t), ("number", V.int 0), ("moves_in_stage", V.int 0), ("left", V.int 0)] : List (Str × V)) from putF_end (by show ("left" : Str) ∉ (["stages", "number", "moves_in_stage"] : List Str); decide +kernel), upd_upd]
    walk_at "rd"
    refine rd_sfldx upd_same T.cl_Side T.a_Side_periods (by show 4 < 1000; decide) ?_
    rw [show putF "periods" (V.int 0) ([("stages", V.ref t), ("number", V.int 0), ("moves_in_stage", V.int 0), ("left", V.int 0)] : List (Str × V)) = ([("stages", V.ref t), ("number", V.int 0), ("moves_in_stage", V.int 0), ("left", V.int 0), ("periods", V.int 0)] : List (Str × V)) from putF_end (by show ("periods" : Str) ∉ (["stages", "number", "moves_in_stage", "left"] : List Str); decide +kernel), upd_upd]
    walk_at "rd"
    refine rd_sfldx upd_same T.cl_Side T.a_Side_moves (by show 5 < 1000; decide) ?_
    rw [show putF "moves" (V.int 0) ([("stages", V.ref t), ("number", V.int 0), ("moves_in_stage", V.int 0), ("left", V.int 0), ("periods", V.int 0)] : List (Str × V)) = ([("stages", V.ref t), ("number", V.int 0), ("moves_in_stage", V.int 0), ("left", V.int 0), ("periods", V.int 0), ("moves", V.int 0)] : List (Str × V)) from putF_end (by show ("moves" : Str) ∉ (["stages", "number", "moves_in_stage", "left", "periods"] : List Str); decide +kernel), upd_upd]
    walk_at "rd"
    refine rd_sfldx upd_same T.cl_Side T.a_Side_passed (by show 6 < 1000; decide) ?_
    rw [show putF "passed" (V.int 0) ([("stages", V.ref t), ("number", V.int 0), ("moves_in_stage", V.int 0), ("left", V.int 0), ("periods", V.int 0), ("moves", V.int 0)] : List (Str × V)) = ([("stages", V.ref t), ("number", V.int 0), ("moves_in_stage", V.int 0), ("left", V.int 0), ("periods", V.int 0), ("moves", V.int 0), ("passed", V.int 0)] : List (Str × V)) from putF_end (by show ("passed" : Str) ∉ (["stages", "number", "moves_in_stage", "left", "periods", "moves"] : List Str); decide +kernel), upd_upd]
    walk_at "rd"
    refine ⟨_, _, _, rfl, upd_same, lk_no (by show ("begin_stage" : Str) ∉ sideN; decide +kernel), ?_⟩
    walk_at "rd"
    refine ⟨p, dx, t, ps, gs, 0, g, sd0, rfl, upd_same, by rw [upd_ne ntp]; exact ht, hs.upd hp, hn, hgd, ?_⟩
    rw [upd_upd]
    exact k
def progOk (gs : List Sg) : Prop := 1 ≤ gs.length ∧ gs.length ≤ 5 ∧ eachOk gs ∧ orderOk gs
def spRead (a : Ads) : Sp := fun vs H Q E => ∃ l ps gs, vs = [.ref l] ∧ H l = some (.lst (refs ps)) ∧ StAt H ps gs ∧
  (progOk gs → ∀ H' t, Same H H' → H t = none → H' t = some (.tup (refs ps)) → Q (.ref t) H') ∧ (¬ progOk gs → ∀ H', Same H H' → E (.ref a.xBadStages) none H')
theorem ok_read_stages (T : Txt K mg a) : Has P w K mg base (CX1 P w) 5 "read_stages" ["stages"] (spRead a) := by
  have G_check_each := ok_check_each (P := P) (w := w) (base := base) T
  have G_check_order := ok_check_order (P := P) (w := w) (base := base) T
  refine T.f_read_stages.has fun f fd F => F.ok1 sc_read_stages (fun vs H Q E h => ?_) (fun cdv A outer s H vs Q E hr h => ?_)
  · obtain ⟨l, ps, gs, rfl, _⟩ := h; rfl
  · obtain ⟨l, ps, gs, rfl, hl, hg, kq, ke⟩ := h
    refine ⟨_, (pss_cons (ps_if (PW.pt (pw_or (pt_not (pt_val (pe_callB call_isinst (by rfl) T.n_isinstance boot_isinstance (pa_cons (pv 0) (pa_cons (pe_bT rfl T.n_list boot_list) pa_nil))) (fun _ => rfl))) (pw_or1 (pt_not (pt_chain op_le op_le pe_int (pe_callB call_len_seq (by rfl) T.n_len PySem.boot_len (pa_cons (pv 0) pa_nil)) (pe_gI rfl T.c_MOST_STAGES)))))) (pss_one (ps_raise leaves_cx rfl T.x_BadStages.is rfl T.g_BadStages (pa_cons (pe_fstr (pf_str (pf_int (pe_gI rfl T.c_MOST_STAGES) pf_nil))) pa_nil))) pss_nil) (pss_cons (ps_expr (pe_callH1 G_check_each leaves_cx hr (pa_cons (pv 0) pa_nil))) (pss_cons (ps_expr (pe_callH1 G_check_order leaves_cx hr (pa_cons (pv 0) pa_nil))) (pss_one (ps_ret (pe_callTy call_tuple_of (by rfl) T.n_tuple boot_tuple (pa_cons (pv 0) pa_nil))))))), ?_⟩
    have hlen : ((refs ps).length : Int) = gs.length := by rw [refs_len, hg.len]
    walk_at "rd"
    refine ⟨_, _, _, _, true, rfl, rfl, TyOf.lst hl, kit_self, ?_⟩
    walk_at "rd"
    refine ⟨l, _, rfl, .inl (SqL.of hl), ?_⟩
    rw [hlen]
    walk_at "rd"
    have bad : ¬ (1 ≤ gs.length ∧ gs.length ≤ 5) → tRaise a.xBadStages E (tCons (tFs (fStr "stages must be a list of 1 to " (fInt (tC (.int 5)) fNil))) tNil) { nx := fun _ _ => True, rt := Q } (start ["stages"] [.ref l]) H := fun hb => by
      have s1 : (Str.empty ++ ("stages must be a list of 1 to " : Str)).length ≤ 40 := by decide +kernel
      have s2 : (toString (5 : Int) : Str).length ≤ 1 := by decide +kernel
      have hz : 1000 ≤ sizeLine := by decide
      walk_at "rd"
      refine ⟨by omega, 5, rfl, by decide +kernel, by rw [strLen_append]; omega, by rw [strLen_append]; omega, (by show 1 ≤ sizeLine; decide), ?_⟩
      exact ke (fun z => hb ⟨z.1, z.2.1⟩) _ (Same.refl _)
    refine rd_ite (fun h1 => ?_) (fun h1 => ?_)
    · walk_at "rd"
      refine rd_iteN (fun h2 => ?_) (fun h2 => ?_)
      · exact bad (fun z => h2 (by omega))
      · walk_at "rd"
        refine ⟨l, ps, gs, rfl, SqL.of hl, hg, by have := hg.len; omega, by have := hg.len; omega, fun ok1 H1 sm1 => ?_, fun nok H1 sm1 => ke (fun z => nok z.2.2.1) _ sm1⟩
        walk_at "rd"
        refine ⟨l, ps, gs, rfl, SqL.of (sm1 _ _ hl), hg.same sm1, by have := hg.len; omega, by have := hg.len; omega, fun ok2 H2 sm2 => ?_, fun nok H2 sm2 => ke (fun z => nok z.2.2.2) _ (sm1.trans sm2)⟩
        walk_at "rd"
        refine ⟨l, _, rfl, .inl ⟨SqL.of (sm2 _ _ (sm1 _ _ hl)), fun t ht => ?_⟩⟩
        have sm := sm1.trans sm2
        exact kq ⟨by omega, by omega, ok1, ok2⟩ _ t (sm.trans (same_upd ht)) (sm.free ht) upd_same
    · walk_at "rd"
      exact bad (fun z => h1 (by omega))
def clockF (tp : Addr) (turn : Int) (runs : Bool) (fallen : V) (total : Int) : List (Str × V) := [("sides", .ref tp), ("turn", .int turn), ("running", .bl runs), ("fallen", fallen), ("passed", .int total)]
def Keeps (p : Addr) (H H' : Hp) : Prop := ∀ b o, H b = some o → b ≠ p → H' b = some o
def spClockInit (a : Ads) : Sp := fun vs H Q E => ∃ p dx l ps gs, vs = [.ref p, .ref l] ∧ H p = some (.ins a.cClock dx []) ∧ H l = some (.lst (refs ps)) ∧ StAt H ps gs ∧
  (progOk gs → ∀ H' t tp s0 s1 d0 d1 g, gs[0]? = some g → goodSg g = true → Keeps p H H' → H' p = some (.ins a.cClock dx (clockF tp 0 false .non 0)) → H' tp = some (.tup [.ref s0, .ref s1]) → H' t = some (.tup (refs ps)) →
    H' s0 = some (.ins a.cSide d0 (sideF t (beginS g 0 sd0))) → H' s1 = some (.ins a.cSide d1 (sideF t (beginS g 0 sd0))) → s0 ≠ s1 → H s0 = none → H s1 = none → H tp = none → H t = none → Q .non H') ∧
  (¬ progOk gs → ∀ H', Same H H' → E (.ref a.xBadStages) none H')
theorem ok_Clock_init (T : Txt K mg a) : HasI P w K mg base (CX1 P w) 6 a.cClock ["self", "stages"] (spClockInit a) := by
  have G_read_stages := ok_read_stages (P := P) (w := w) (base := base) T
  have G_Side_init := ok_Side_init (P := P) (w := w) (base := base) T
  refine T.i_Clock.has fun f fd F => F.ok1 sc_Clock_init (fun vs H Q E h => ?_) (fun cdv A outer s H vs Q E hr h => ?_)
  · obtain ⟨p, dx, l, ps, gs, rfl, _⟩ := h; rfl
  · obtain ⟨p, dx, l, ps, gs, rfl, hp, hl, hg, kq, ke⟩ := h
    refine ⟨_, (pss_cons (ps_set (i := 2) sc_Clock_init.nd rfl (Or.inl rfl) (pe_callH1 G_read_stages leaves_cx hr (pa_cons (pv 1) pa_nil))) (pss_cons (ps_fld (pv 0) (pe_tup (pa_cons (pe_makeH G_Side_init T.g_Side hr (pa_cons (pv 2) pa_nil)) (pa_cons (pe_makeH G_Side_init T.g_Side hr (pa_cons (pv 2) pa_nil)) pa_nil))) rfl) (pss_cons (ps_fld (pv 0) pe_int rfl) (pss_cons (ps_fld (pv 0) pe_bl rfl) (pss_cons (ps_fld (pv 0) pe_non rfl) (pss_one (ps_fld (pv 0) pe_int rfl))))))), ?_⟩
    walk_at "rd"
    refine ⟨l, ps, gs, rfl, hl, hg, fun ok H1 t sm1 htn ht => ?_, ke⟩
    obtain ⟨g, hg0⟩ : ∃ g, gs[0]? = some g := ⟨gs[0]'(by have := ok.1; omega), List.getElem?_eq_getElem _⟩
    have hgd : goodSg g = true := ok.2.2.1 0 g hg0
    have hp1 := sm1 _ _ hp
    have hg1 := hg.same sm1
    walk_at "rd"
    intro s0 d0 n0 nd0 ne0
    have t0 : t ≠ s0 := ne_of_none ht n0
    have td0 : t ≠ d0 := ne_of_none ht nd0
    have smA : Same H1 (upd (upd H1 d0 (.own s0)) s0 (.ins a.cSide d0 [])) := fun b o e => by rw [upd_ne (ne_of_none e n0), upd_ne (ne_of_none e nd0)]; exact e
    refine ⟨s0, d0, t, ps, gs, g, rfl, upd_same, smA _ _ ht, hg1.same smA, hg0, hgd, rfl, ?_⟩
    rw [upd_upd]
    have smB : Same H1 (upd (upd H1 d0 (.own s0)) s0 (.ins a.cSide d0 (sideF t (beginS g 0 sd0)))) := fun b o e => by rw [upd_ne (ne_of_none e n0), upd_ne (ne_of_none e nd0)]; exact e
    generalize hHB : upd (upd H1 d0 (.own s0)) s0 (.ins a.cSide d0 (sideF t (beginS g 0 sd0))) = HB at smB
    have hs0 : HB s0 = some (.ins a.cSide d0 (sideF t (beginS g 0 sd0))) := by rw [← hHB]; exact upd_same
    walk_at "rd"
    intro s1 d1 n1 nd1 ne1
    have smC : Same HB (upd (upd HB d1 (.own s1)) s1 (.ins a.cSide d1 [])) := fun b o e => by rw [upd_ne (ne_of_none e n1), upd_ne (ne_of_none e nd1)]; exact e
    refine ⟨s1, d1, t, ps, gs, g, rfl, upd_same, smC _ _ (smB _ _ ht), (hg1.same smB).same smC, hg0, hgd, rfl, ?_⟩
    rw [upd_upd]
    have smD : Same HB (upd (upd HB d1 (.own s1)) s1 (.ins a.cSide d1 (sideF t (beginS g 0 sd0)))) := fun b o e => by rw [upd_ne (ne_of_none e n1), upd_ne (ne_of_none e nd1)]; exact e
    generalize hHD : upd (upd HB d1 (.own s1)) s1 (.ins a.cSide d1 (sideF t (beginS g 0 sd0))) = HD at smD
    have hs1 : HD s1 = some (.ins a.cSide d1 (sideF t (beginS g 0 sd0))) := by rw [← hHD]; exact upd_same
    walk_at "rd"
    refine ⟨by show 2 ≤ sizeLine; decide, fun tp ntp => ?_⟩
    have smE : Same H (upd HD tp (.tup [.ref s0, .ref s1])) := ((sm1.trans smB).trans smD).trans (same_upd ntp)
    have hpE := smE _ _ hp
    walk_at "rd"
    refine rd_sfldx hpE T.cl_Clock T.a_Clock_sides (by show 0 < 1000; decide) ?_
    rw [show putF "sides" (V.ref tp) ([] : List (Str × V)) = ([("sides", V.ref tp)] : List (Str × V)) from putF_end (by show ("sides" : Str) ∉ ([] : List Str); decide +kernel)]
    walk_at "rd"
    refine rd_sfldx upd_same T.cl_Clock T.a_Clock_turn (by show 1 < 1000; decide) ?_
    rw [show putF "turn" (V.int 0) ([("sides", V.ref tp)] : List (Str × V)) = ([("sides", V.ref tp), ("turn", V.int 0)] : List (Str × V)) from putF_end (by show ("turn" : Str) ∉ (["sides"] : List Str); decide +kernel), upd_upd]
    walk_at "rd"
    refine rd_sfldx upd_same T.cl_Clock T.a_Clock_running (by show 2 < 1000; decide) ?_
    rw [show putF "running" (V.bl false) ([("sides", V.ref tp), ("turn", V.int 0)] : List (Str × V)) = ([("sides", V.ref tp), ("turn", V.int 0), ("running", V.bl false)] : List (Str × V)) from putF_end (by show ("running" : Str) ∉ (["sides", "turn"] : List Str); decide +kernel), upd_upd]
    walk_at "rd"
    refine rd_sfldx upd_same T.cl_Clock T.a_Clock_fallen (by show 3 < 1000; decide) ?_
    rw [show putF "fallen" (V.non) ([("sides", V.ref tp), ("turn", V.int 0), ("running", V.bl false)] : List (Str × V)) = ([("sides", V.ref tp), ("turn", V.int 0), ("running", V.bl false), ("fallen", V.non)] : List (Str × V)) from putF_end (by show ("fallen" : Str) ∉ (["sides", "turn", "running"] : List Str); decide +kernel), upd_upd]
    walk_at "rd"
    refine rd_sfldx upd_same T.cl_Clock T.a_Clock_passed (by show 4 < 1000; decide) ?_
    rw [show putF "passed" (V.int 0) ([("sides", V.ref tp), ("turn", V.int 0), ("running", V.bl false), ("fallen", V.non)] : List (Str × V)) = ([("sides", V.ref tp), ("turn", V.int 0), ("running", V.bl false), ("fallen", V.non), ("passed", V.int 0)] : List (Str × V)) from putF_end (by show ("passed" : Str) ∉ (["sides", "turn", "running", "fallen"] : List Str); decide +kernel), upd_upd]
    walk_at "rd"
    have h01 : s0 ≠ s1 := ne_of_none hs0 n1
    have nz : ∀ b, H b = none → b ≠ p := fun b z y => by rw [y, hp] at z; cases z
    have f0 := sm1.free n0
    have f1 := (sm1.trans smB).free n1
    have fp := ((sm1.trans smB).trans smD).free ntp
    have e0 : s0 ≠ tp := ne_of_none (smD _ _ hs0) ntp
    have e1 : s1 ≠ tp := ne_of_none hs1 ntp
    have et : t ≠ tp := ne_of_none (smD _ _ (smB _ _ ht)) ntp
    refine kq ok _ t tp s0 s1 d0 d1 g hg0 hgd (fun b o e nb => ?_) upd_same ?_ ?_ ?_ ?_ h01 f0 f1 fp htn
    · rw [upd_ne nb]; exact smE _ _ e
    · rw [upd_ne (nz _ fp)]; exact upd_same
    · rw [upd_ne (nz _ htn), upd_ne et]; exact smD _ _ (smB _ _ ht)
    · rw [upd_ne (nz _ f0), upd_ne e0]; exact smD _ _ hs0
    · rw [upd_ne (nz _ f1), upd_ne e1]; exact hs1
def spCell (K : PySem.W.Frag) : Sp := fun vs H Q _ => ∃ l ns k, vs = [.ref l, .int k] ∧ SqL K H l (List.map V.int ns) ∧ ∀ r : Int, Q (.int r) H
theorem ok_law_cell (T : Txt K mg a) : Has P w K mg base CX0 1 "_law_cell" ["_law_script", "_law_k"] (spCell K) := by
  refine T.f_law_cell.has fun f fd F => F.ok sc_law_cell (fun vs H Q E h => ?_) (fun cdv A outer s H vs Q E hr h => ?_)
  · obtain ⟨l, ns, k, rfl, _⟩ := h; rfl
  · obtain ⟨l, ns, n, rfl, hl, k⟩ := h
    refine ⟨_, (pss_cons (ps_if (pt_truth (pv 0) (fun _ => rfl)) (pss_one (ps_ret (pe_ix ix_list (pv 0) (pe_op op_mod (pv 1) (pe_callB call_len_seq (by rfl) T.n_len PySem.boot_len (pa_cons (pv 0) pa_nil))) (fun _ _ => rfl)))) pss_nil) (pss_one (ps_ret pe_int))), ?_⟩
    walk_at "rd"
    refine ⟨_, .inl ⟨_, hl, rfl⟩, ?_⟩
    refine rd_iteNB (fun he => ?_) (fun he => ?_)
    · walk_at "rd"
      refine ⟨l, _, rfl, .inl hl, ?_⟩
      have hpos : 0 < ns.length := by
        cases ns with
        | nil => cases he
        | cons _ _ => exact Nat.succ_pos _
      have hm : ((List.map V.int ns).length : Int) = ns.length := by rw [List.length_map]
      rw [hm]
      refine rd_I (show (0 : Int) < ns.length by omega) ?_
      have hlt := Int.emod_lt_of_pos n (show (0 : Int) < ns.length by omega)
      have hge := Int.emod_nonneg n (show (ns.length : Int) ≠ 0 by omega)
      obtain ⟨j, hj⟩ : ∃ j : Nat, n % (ns.length : Int) = (j : Int) := ⟨(n % (ns.length : Int)).toNat, by omega⟩
      have hjl : j < ns.length := by omega
      refine rd_ixL hl (v := .int ns[j]) ?_ (k _)
      rw [hj]
      refine atI_nat ?_
      rw [List.getElem?_map, List.getElem?_eq_getElem hjl]
      rfl
    · walk_at "rd"
      exact k 0
theorem ok_law_mix (T : Txt K mg a) : Has P w K mg base CX0 2 "_law_mix" ["_law_script", "_law_k"] (spCell K) := by
  have G_law_cell := ok_law_cell (P := P) (w := w) (base := base) T
  refine T.f_law_mix.has fun f fd F => F.ok sc_law_mix (fun vs H Q E h => ?_) (fun cdv A outer s H vs Q E hr h => ?_)
  · obtain ⟨l, ns, k, rfl, _⟩ := h; rfl
  · obtain ⟨l, ns, n, rfl, hl, k⟩ := h
    refine ⟨_, (pss_cons (ps_set (i := 2) sc_law_mix.nd rfl (Or.inl rfl) (pe_op op_mod (pe_op op_add (pe_callH G_law_cell hr (pa_cons (pv 0) (pa_cons (pv 1) pa_nil))) (pe_op op_mul pe_int (pe_op op_add (pv 1) pe_int))) pe_int)) (pss_cons (ps_set (i := 2) sc_law_mix.nd rfl (Or.inl rfl) (pe_op op_mod (pe_op op_mul (pv 2) pe_int) pe_int)) (pss_one (ps_ret (pe_op op_mod (pe_op op_add (pe_op op_mul (pe_op op_fdiv (pv 2) pe_int) pe_int) (pv 2)) pe_int))))), ?_⟩
    walk_at "rd"
    refine ⟨l, ns, n, rfl, hl, fun r => ?_⟩
    walk_at "rd"
    exact k _
def mOkL : Option Int → Bool → Bool
  | none, _ => true
  | some k, b => !b && inn k 1 200
def lawMain : Sg → Bool → Bool
  | .five _ m t w e, b => mOkL m b && (inn t 1 1000000 && (inV (.str w) ways && inn e 0 1000000))
  | .three _ _ _, _ => false
theorem lawMain_five {z w : Str} {m : Option Int} {t e : Int} {b : Bool} : lawMain (.five z m t w e) b = (mOkL m b && (inn t 1 1000000 && (inV (.str w) ways && inn e 0 1000000))) := rfl
def nextOver : Option Sg → Bool
  | some n => n.isW "over"
  | none => false
def stB (g : Sg) (last : Bool) (nx : Option Sg) : Bool :=
  if g.isW "over" = true then goodOver g && last else g.isW "main" && (lawMain g last && (!(decide (g.one = .non)) || (last || nextOver nx)))
theorem isW_ne {g : Sg} (h : g.isW "over" = true) : g.isW "main" = false := by
  have hz : V.str g.word = V.str "over" := of_decide_eq_true h
  show decide (V.str g.word = V.str "main") = false
  rw [hz]
  decide +kernel
theorem lawMain_good {g : Sg} {b : Bool} (h : lawMain g b = true) : goodMain g = true := by
  cases g with
  | three z p t => cases h
  | five z m t w e =>
    simp only [lawMain, goodMain, Bool.and_eq_true] at h ⊢
    refine ⟨⟨⟨?_, h.2.1⟩, h.2.2.1⟩, h.2.2.2⟩
    cases m with
    | none => rfl
    | some k =>
      have h1 := h.1
      simp only [mOkL, Bool.and_eq_true] at h1
      exact h1.2
theorem good_lawMain {g : Sg} (h : goodMain g = true) : lawMain g false = true ∧ (g.one = .non → lawMain g true = true) := by
  cases g with
  | three z p t => cases h
  | five z m t w e =>
    simp only [lawMain, goodMain, Bool.and_eq_true] at h ⊢
    cases m with
    | none => exact ⟨⟨rfl, h.1.1.2, h.1.2, h.2⟩, fun _ => ⟨rfl, h.1.1.2, h.1.2, h.2⟩⟩
    | some k => exact ⟨⟨by simpa [mOk, mOkL] using h.1.1.1, h.1.1.2, h.1.2, h.2⟩, fun z => by cases z⟩
theorem lawMain_last {g : Sg} (h : lawMain g true = true) : g.one = .non := by
  cases g with
  | three z p t => cases h
  | five z m t w e =>
    cases m with
    | none => rfl
    | some k => simp [lawMain, mOkL] at h
theorem main_endless {g : Sg} (hm : g.isW "main" = true) : g.endless = decide (g.one = V.non) := by simp [Sg.endless, hm]
theorem stB_of {gs : List Sg} (he : eachOk gs) (ho : orderOk gs) {j : Nat} {g : Sg} (hj : gs[j]? = some g) : stB g (decide (j + 1 = gs.length)) gs[j + 1]? = true := by
  have hg := he j g hj
  have hlt := (List.getElem?_eq_some_iff.mp hj).1
  unfold stB
  by_cases hov : g.isW "over" = true
  · rw [if_pos hov]
    have hgo : goodOver g = true := by
      unfold goodSg at hg
      rw [isW_ne hov, hov] at hg
      simpa using hg
    rw [hgo, Bool.true_and, decide_eq_true_eq]
    by_cases hl : j + 1 < gs.length
    · have := ho.1 j g gs[j + 1] hj (List.getElem?_eq_getElem hl)
      simp [may, hov] at this
    · omega
  · rw [if_neg hov]
    have hm : g.isW "main" = true := by
      cases q : g.isW "main" with
      | true => rfl
      | false =>
        unfold goodSg at hg
        rw [q] at hg
        simp [hov] at hg
    have hgm : goodMain g = true := by
      unfold goodSg at hg
      rw [if_pos hm] at hg
      exact hg
    rw [hm, Bool.true_and, Bool.and_eq_true]
    by_cases hl : j + 1 < gs.length
    · have hd : decide (j + 1 = gs.length) = false := decide_eq_false (by omega)
      rw [hd]
      refine ⟨(good_lawMain hgm).1, ?_⟩
      rw [List.getElem?_eq_getElem hl]
      have hmay := ho.1 j g gs[j + 1] hj (List.getElem?_eq_getElem hl)
      simp only [may, main_endless hm] at hmay
      simp only [nextOver]
      cases q : decide (g.one = V.non) with
      | false => rfl
      | true =>
        rw [q] at hmay
        simp at hmay
        simp [hmay.2]
    · have hd : j + 1 = gs.length := by omega
      rw [decide_eq_true hd]
      have hlast := ho.2 g (by rw [show gs.length - 1 = j by omega]; exact hj)
      rcases hlast with z | z
      · exact absurd z hov
      · rw [main_endless hm] at z
        exact ⟨(good_lawMain hgm).2 (of_decide_eq_true z), by simp⟩
theorem of_stB {gs : List Sg} (h : ∀ (j : Nat) g, gs[j]? = some g → stB g (decide (j + 1 = gs.length)) gs[j + 1]? = true) : eachOk gs ∧ orderOk gs := by
  have key : ∀ (j : Nat) g, gs[j]? = some g → (g.isW "over" = true ∧ goodOver g = true ∧ j + 1 = gs.length) ∨ (g.isW "over" = false ∧ g.isW "main" = true ∧ lawMain g (decide (j + 1 = gs.length)) = true ∧ (g.one = .non → j + 1 ≠ gs.length → nextOver gs[j + 1]? = true)) := by
    intro j g hj
    have q := h j g hj
    unfold stB at q
    by_cases hov : g.isW "over" = true
    · rw [if_pos hov, Bool.and_eq_true, decide_eq_true_eq] at q
      exact .inl ⟨hov, q⟩
    · rw [if_neg hov] at q
      simp only [Bool.and_eq_true, Bool.or_eq_true, Bool.not_eq_true', decide_eq_false_iff_not, decide_eq_true_eq] at q
      refine .inr ⟨by simpa using hov, q.1, q.2.1, fun z1 z2 => ?_⟩
      rcases q.2.2 with y | y | y
      · exact absurd z1 y
      · exact absurd y z2
      · exact y
  refine ⟨fun j g hj => ?_, fun j e l he hl => ?_, fun g hg => ?_⟩
  · unfold goodSg
    rcases key j g hj with ⟨a, b, c⟩ | ⟨a, b, c, d⟩
    · rw [isW_ne a, a, b]; rfl
    · rw [if_pos b]; exact lawMain_good c
  · have hlt := (List.getElem?_eq_some_iff.mp hl).1
    rcases key j e he with ⟨a, b, c⟩ | ⟨a, b, c, d⟩
    · omega
    · unfold may
      rw [a, main_endless b]
      cases q : decide (e.one = V.non) with
      | false => simp
      | true =>
        have z := d (of_decide_eq_true q) (by omega)
        rw [hl] at z
        simp only [nextOver] at z
        rw [z]; rfl
  · have hlt := (List.getElem?_eq_some_iff.mp hg).1
    rcases key _ g hg with ⟨a, b, c⟩ | ⟨a, b, c, d⟩
    · exact .inl a
    · rw [decide_eq_true (show gs.length - 1 + 1 = gs.length by omega)] at c
      right
      rw [main_endless b]
      exact decide_eq_true (lawMain_last c)
def isMv (g : Sg) : Prop := ∃ m t w e, g = .five "main" (some m) t w e ∧ goodSg g = true
def isEn (g : Sg) : Prop := ∃ t w e, g = .five "main" none t w e ∧ goodSg g = true
def isOv (g : Sg) : Prop := ∃ p t, g = .three "over" p t ∧ goodSg g = true
def natG : Sg → Prop
  | .five z _ _ _ _ => z = "main"
  | .three z _ _ => z = "over"
def tailOk (gs : List Sg) : Prop := (∃ g, gs = [g] ∧ (isEn g ∨ isOv g)) ∨ ∃ g o, gs = [g, o] ∧ isEn g ∧ isOv o
theorem isW_main {m : Option Int} {t : Int} {w : Str} {e : Int} : (Sg.five "main" m t w e).isW "main" = true := decide_eq_true rfl
theorem isW_over {p t : Int} : (Sg.three "over" p t).isW "over" = true := decide_eq_true rfl
theorem isW_mo {m : Option Int} {t : Int} {w : Str} {e : Int} : (Sg.five "main" m t w e).isW "over" = false := by
  show decide (V.str "main" = V.str "over") = false
  decide +kernel
theorem may_mv {l g : Sg} (h : isMv g) : may l g = true := by
  obtain ⟨m, t, w, e, rfl, _⟩ := h
  unfold may
  rw [isW_mo, main_endless isW_main]
  simp [Sg.one, optV]
theorem may_en {l g : Sg} (h : isEn g) (hl : isOv l) : may l g = true := by
  obtain ⟨t, w, e, rfl, _⟩ := h
  obtain ⟨p, t2, rfl, _⟩ := hl
  unfold may
  rw [isW_mo, isW_over]; rfl
def chk : List Sg → Bool
  | [] => false
  | [g] => g.isW "over" || g.endless
  | e :: l :: r => may l e && chk (l :: r)
theorem chk_order : ∀ {gs : List Sg}, chk gs = true → orderOk gs
  | [], h => by cases h
  | [g], h => by
    refine ⟨fun j e l he hl => ?_, fun g' hg' => ?_⟩
    · have := (List.getElem?_eq_some_iff.mp hl).1
      simp at this
    · simp at hg'
      subst hg'
      simpa [chk] using h
  | e :: l :: r, h => by
    simp only [chk, Bool.and_eq_true] at h
    obtain ⟨h1, h2⟩ := chk_order h.2
    refine ⟨fun j e' l' he hl => ?_, fun g' hg' => ?_⟩
    · cases j with
      | zero => simp at he hl; subst he hl; exact h.1
      | succ j => exact h1 j e' l' (by simpa using he) (by simpa using hl)
    · exact h2 g' (by simpa using hg')
theorem chk_tail {gs : List Sg} (h : tailOk gs) : chk gs = true := by
  rcases h with ⟨g, rfl, h | h⟩ | ⟨g, o, rfl, h1, h2⟩
  · obtain ⟨t, w, e, rfl, _⟩ := h
    simp only [chk]
    rw [main_endless isW_main]
    simp [Sg.one, optV]
  · obtain ⟨p, t, rfl, _⟩ := h
    simp only [chk]
    rw [isW_over]; rfl
  · have hm := may_en h1 h2
    obtain ⟨p, t, rfl, _⟩ := h2
    simp only [chk]
    rw [hm, isW_over]; rfl
theorem chk_mvs : ∀ {ms ts : List Sg}, (∀ g ∈ ms, isMv g) → chk ts = true → chk (ms ++ ts) = true
  | [], ts, _, h => h
  | m :: ms, ts, hm, h => by
    have ih := chk_mvs (ms := ms) (fun g hg => hm g (List.mem_cons_of_mem _ hg)) h
    have h1 := hm m (List.mem_cons_self ..)
    show chk (m :: (ms ++ ts)) = true
    cases hr : ms ++ ts with
    | nil => rw [hr] at ih; cases ih
    | cons l r =>
      rw [hr] at ih
      simp only [chk, may_mv h1, Bool.true_and]
      exact ih
theorem tail_good {gs : List Sg} (h : tailOk gs) : (∀ g ∈ gs, goodSg g = true ∧ natG g) ∧ 1 ≤ gs.length ∧ gs.length ≤ 2 := by
  have en : ∀ g, isEn g → goodSg g = true ∧ natG g := fun g ⟨t, w, e, x, y⟩ => ⟨y, by subst x; rfl⟩
  have ov : ∀ g, isOv g → goodSg g = true ∧ natG g := fun g ⟨t, w, x, y⟩ => ⟨y, by subst x; rfl⟩
  rcases h with ⟨g, rfl, h | h⟩ | ⟨g, o, rfl, h1, h2⟩
  · exact ⟨fun x hx => by simp at hx; subst hx; exact en _ h, by simp, by simp⟩
  · exact ⟨fun x hx => by simp at hx; subst hx; exact ov _ h, by simp, by simp⟩
  · refine ⟨fun x hx => ?_, by simp, by simp⟩
    simp at hx
    rcases hx with rfl | rfl
    · exact en _ h1
    · exact ov _ h2
/-- what the law draws -/
structure Drawn (gs : List Sg) : Prop where
  ok : progOk gs
  nat : ∀ g ∈ gs, natG g
  len : gs.length ≤ 4
theorem drawn_of {ms ts : List Sg} (hm : ∀ g ∈ ms, isMv g) (ht : tailOk ts) (hl : ms.length ≤ 2) : Drawn (ms ++ ts) := by
  have h1 := tail_good ht
  refine ⟨⟨by rw [List.length_append]; omega, by rw [List.length_append]; omega, fun j g hj => ?_, chk_order (chk_mvs hm (chk_tail ht))⟩, fun g hg => ?_, by rw [List.length_append]; omega⟩
  · rcases List.mem_append.mp (List.mem_of_getElem? hj) with z | z
    · obtain ⟨m, t, w, e, _, y⟩ := hm g z; exact y
    · exact (h1.1 g z).1
  · rcases List.mem_append.mp hg with z | z
    · obtain ⟨m, t, w, e, x, y⟩ := hm g z; subst x; rfl
    · exact (h1.1 g z).2
theorem mk_mv {m t e : Int} {w : Str} (hm : inn m 1 200 = true) (ht : inn t 1 1000000 = true) (hw : inV (.str w) ways = true) (he : inn e 0 1000000 = true) : isMv (.five "main" (some m) t w e) :=
  ⟨m, t, w, e, rfl, by unfold goodSg; rw [if_pos isW_main]; simp only [goodMain, mOk, hm, ht, hw, he, Bool.and_self]⟩
theorem mk_en {t e : Int} {w : Str} (ht : inn t 1 1000000 = true) (hw : inV (.str w) ways = true) (he : inn e 0 1000000 = true) : isEn (.five "main" none t w e) :=
  ⟨t, w, e, rfl, by unfold goodSg; rw [if_pos isW_main]; simp only [goodMain, mOk, ht, hw, he, Bool.and_self]⟩
theorem mk_ov {p t : Int} (hp : inn p 1 200 = true) (ht : inn t 1 1000000 = true) : isOv (.three "over" p t) :=
  ⟨p, t, rfl, by unfold goodSg; rw [isW_ne isW_over, isW_over]; simp only [goodOver, hp, ht, Bool.and_self]; rfl⟩
theorem inn_mk {i lo hi : Int} (h1 : lo ≤ i) (h2 : i ≤ hi) : inn i lo hi = true := by simp [inn, h1, h2]
theorem four {i : Int} (h0 : 0 ≤ i) (h1 : i < 4) : ∃ w, atI ways i = some (.str w) ∧ inV (.str w) ways = true := by
  have : i = 0 ∨ i = 1 ∨ i = 2 ∨ i = 3 := by omega
  rcases this with rfl | rfl | rfl | rfl
  · exact ⟨"plain", rfl, by decide +kernel⟩
  · exact ⟨"add", rfl, by decide +kernel⟩
  · exact ⟨"back", rfl, by decide +kernel⟩
  · exact ⟨"wait", rfl, by decide +kernel⟩
def spStages (K : PySem.W.Frag) : Sp := fun vs H Q _ => ∃ l ns k, vs = [.ref l, .int k] ∧ SqL K H l (List.map V.int ns) ∧
  ∀ H' p ps gs, Same H H' → H p = none → H' p = some (.lst (refs ps)) → StAt H' ps gs → Drawn gs → Q (.ref p) H'
theorem StAt.snoc {H : Hp} {ps : List Addr} {gs : List Sg} {q : Addr} {g : Sg} (x : StAt H ps gs) (h : H q = some (.tup g.vs)) : StAt H (ps ++ [q]) (gs ++ [g]) := by
  refine ⟨by rw [List.length_append, List.length_append, x.len]; rfl, fun i p g' h1 h2 => ?_⟩
  have hl := x.len
  by_cases hi : i < ps.length
  · rw [List.getElem?_append_left hi] at h1
    rw [List.getElem?_append_left (by omega)] at h2
    exact x.at_ i p g' h1 h2
  · rw [List.getElem?_append_right (by omega)] at h1
    rw [List.getElem?_append_right (by omega)] at h2
    have hi2 : i - ps.length < 1 := by
      have := (List.getElem?_eq_some_iff.mp h1).1
      simpa using this
    have e1 : i - ps.length = 0 := by omega
    have e2 : i - gs.length = 0 := by omega
    rw [e1] at h1
    rw [e2] at h2
    simp at h1 h2
    subst h1 h2
    exact h
theorem refs_snoc {ps : List Addr} {q : Addr} : refs ps ++ [V.ref q] = refs (ps ++ [q]) := by unfold refs; rw [List.map_append]; rfl
theorem StAt.lset {H : Hp} {ps : List Addr} {gs : List Sg} {p : Addr} {xs ys : List V} (x : StAt H ps gs) (hp : H p = some (.lst xs)) : StAt (L2.upd H p (HO.lst ys)) ps gs :=
  ⟨x.len, fun i q g h1 h2 => by rw [upd_ne (ne_of (x.at_ i q g h1 h2) hp (by intro z; cases z))]; exact x.at_ i q g h1 h2⟩
theorem same_out {H H' : Hp} {p : Addr} {o : HO} (s : Same H H') (h : H p = none) : Same H (upd H' p o) := fun b u e => by rw [upd_ne (ne_of_none e h)]; exact s b u e
/-- one stage more at the end of the list at p -/
theorem StAt.more {H : Hp} {ps : List Addr} {gs : List Sg} {p q : Addr} {g : Sg} (x : StAt H ps gs) (hp : H p = some (.lst (refs ps))) (hq : H q = none) :
    StAt (L2.upd (L2.upd H q (HO.tup g.vs)) p (HO.lst (refs (ps ++ [q])))) (ps ++ [q]) (gs ++ [g]) ∧ (L2.upd (L2.upd H q (HO.tup g.vs)) p (HO.lst (refs (ps ++ [q])))) p = some (HO.lst (refs (ps ++ [q]))) :=
  ⟨StAt.lset (xs := refs ps) (((x.same (same_upd hq)).snoc upd_same)) (by rw [upd_ne (ne_of_none hp hq)]; exact hp), upd_same⟩
theorem ok_law_stages (T : Txt K mg a) : Has P w K mg base CX0 3 "_law_stages" ["_law_script", "_law_k"] (spStages K) := by
  have G_law_mix := ok_law_mix (P := P) (w := w) (base := base) T
  refine T.f_law_stages.has fun f fd F => F.ok sc_law_stages (fun vs H Q E h => ?_) (fun cdv A outer s H vs Q E hr h => ?_)
  · obtain ⟨l, ns, k, rfl, _⟩ := h; rfl
  · obtain ⟨l, ns, kk, rfl, hl, k⟩ := h
    have hu := hu_of hr
    refine ⟨_, (pss_cons (ps_set (i := 2) sc_law_stages.nd rfl (Or.inl rfl) (pe_lst pa_nil)) (pss_cons (ps_for PassesOwn.never rfl (pi_range1 rfl T.n_range (pa_cons (pe_op op_mod (pe_callH G_law_mix hr (pa_cons (pv 0) (pa_cons (pv 1) pa_nil))) pe_int) pa_nil)) (pg_name (i := 3) sc_law_stages.nd rfl (Or.inl rfl)) (pss_cons (ps_set (i := 4) sc_law_stages.nd rfl (Or.inl rfl) (pe_callH G_law_mix hr (pa_cons (pv 0) (pa_cons (pe_op op_add (pe_op op_add (pv 1) pe_int) (pv 3)) pa_nil)))) (pss_cons (ps_set (i := 5) sc_law_stages.nd rfl (Or.inl rfl) (pe_ix ix_list (pe_lst (pa_cons pe_str (pa_cons pe_str (pa_cons pe_str (pa_cons pe_str pa_nil))))) (pe_op op_mod (pv 4) pe_int) (fun _ _ => rfl))) (pss_one (ps_expr (pe_bm PySem.F.plainAttrs_list PySem.F.slot_list_append PySem.F.type_list_append mt_append (pv 2) (pa_cons (pe_tup (pa_cons pe_str (pa_cons (pe_op op_add pe_int (pe_op op_mod (pe_op op_fdiv (pv 4) pe_int) pe_int)) (pa_cons (pe_op op_add pe_int (pe_op op_mod (pe_op op_fdiv (pv 4) pe_int) pe_int)) (pa_cons (pv 5) (pa_cons (pe_op op_mod (pe_op op_fdiv (pv 4) pe_int) pe_int) pa_nil)))))) pa_nil))))))) (pss_cons (ps_set (i := 4) sc_law_stages.nd rfl (Or.inl rfl) (pe_callH G_law_mix hr (pa_cons (pv 0) (pa_cons (pe_op op_add (pv 1) pe_int) pa_nil)))) (pss_cons (ps_if (PW.pt (pw_or (pt_cmpR op_lt (pe_op op_mod (pv 4) pe_int) pe_int (nomark _)) (pw_or1 (PW.pt (pw_and (pt_cmpR (op_eqL hu) (pv 2) (pe_lst pa_nil) (nomark _)) (pw_and1 (pt_cmpR op_eq (pe_op op_mod (pe_op op_fdiv (pv 4) pe_int) pe_int) pe_int (nomark _)))))))) (pss_cons (ps_set (i := 5) sc_law_stages.nd rfl (Or.inl rfl) (pe_ix ix_list (pe_lst (pa_cons pe_str (pa_cons pe_str (pa_cons pe_str (pa_cons pe_str pa_nil))))) (pe_op op_mod (pe_op op_fdiv (pv 4) pe_int) pe_int) (fun _ _ => rfl))) (pss_one (ps_expr (pe_bm PySem.F.plainAttrs_list PySem.F.slot_list_append PySem.F.type_list_append mt_append (pv 2) (pa_cons (pe_tup (pa_cons pe_str (pa_cons pe_non (pa_cons (pe_op op_add pe_int (pe_op op_mod (pe_op op_fdiv (pv 4) pe_int) pe_int)) (pa_cons (pv 5) (pa_cons (pe_op op_mod (pe_op op_fdiv (pv 4) pe_int) pe_int) pa_nil)))))) pa_nil))))) pss_nil) (pss_cons (ps_if (pt_cmpR op_gt (pe_op op_mod (pv 4) pe_int) pe_int (nomark _)) (pss_one (ps_expr (pe_bm PySem.F.plainAttrs_list PySem.F.slot_list_append PySem.F.type_list_append mt_append (pv 2) (pa_cons (pe_tup (pa_cons pe_str (pa_cons (pe_op op_add pe_int (pe_op op_mod (pe_op op_fdiv (pv 4) pe_int) pe_int)) (pa_cons (pe_op op_add pe_int (pe_op op_mod (pe_op op_fdiv (pv 4) pe_int) pe_int)) pa_nil)))) pa_nil)))) pss_nil) (pss_one (ps_ret (pv 2)))))))), ?_⟩
    walk_at "rd"
    refine ⟨by show 0 ≤ sizeLine; decide, fun p hp => ?_⟩
    have s0 : Same H (upd H p (.lst (refs []))) := same_upd hp
    walk_at "rd"
    refine ⟨l, ns, kk, rfl, s0.seq hl, fun r0 => ?_⟩
    walk_at "rd"
    have h3 := Int.emod_nonneg r0 (show (3 : Int) ≠ 0 by decide)
    have h4 := Int.emod_lt_of_pos r0 (show (0 : Int) < 3 by decide)
    refine ⟨_, rfl, by omega, by omega, for_range (lo := 0) (fun i σ H1 => (∃ v3 v4 v5, σ = [some (.ref l), some (.int kk), some (.ref p), v3, v4, v5]) ∧ Same H H1 ∧ ∃ ps gs, H1 p = some (.lst (refs ps)) ∧ StAt H1 ps gs ∧ gs.length = i ∧ ∀ g ∈ gs, isMv g)
      ⟨⟨none, none, none, rfl⟩, s0, [], [], upd_same, ⟨rfl, fun i p g h => by simp at h⟩, rfl, fun g h => by simp at h⟩ ?_ ?_⟩
    · rintro i σ H1 hi ⟨⟨v3, v4, v5, rfl⟩, sm, ps, gs, h1p, hst, hgl, hmv⟩
      walk_at "rd"
      refine ⟨l, ns, _, rfl, sm.seq hl, fun n => ?_⟩
      walk_at "rd"
      refine ⟨by show 4 ≤ sizeLine; decide, fun q hq => ?_⟩
      walk_at "rd"
      obtain ⟨ww, hw1, hw2⟩ := four (Int.emod_nonneg n (show (4 : Int) ≠ 0 by decide)) (Int.emod_lt_of_pos n (show (0 : Int) < 4 by decide))
      refine rd_ixL (SqL.of upd_same) hw1 ?_
      have sm1 := sm.trans (same_upd (o := .lst ways) hq)
      have hst1 := hst.same (same_upd (o := .lst ways) hq)
      have h1p1 : (upd H1 q (.lst ways)) p = some (.lst (refs ps)) := by rw [upd_ne (ne_of_none h1p hq)]; exact h1p
      change _ at h1p1
      walk_at "rd"
      refine ⟨.inl ⟨rfl, _, SqL.of h1p1⟩, ?_⟩
      walk_at "rd"
      refine ⟨by show 5 ≤ sizeLine; decide, fun t ht => ?_⟩
      walk_at "rd"
      have a1 := Int.emod_nonneg (n / 4) (show (4 : Int) ≠ 0 by decide)
      have a2 := Int.emod_lt_of_pos (n / 4) (show (0 : Int) < 4 by decide)
      have b1 := Int.emod_nonneg (n / 16) (show (40 : Int) ≠ 0 by decide)
      have b2 := Int.emod_lt_of_pos (n / 16) (show (0 : Int) < 40 by decide)
      have c1 := Int.emod_nonneg (n / 640) (show (7 : Int) ≠ 0 by decide)
      have c2 := Int.emod_lt_of_pos (n / 640) (show (0 : Int) < 7 by decide)
      have hmvg : isMv (.five "main" (some (1 + n / 4 % 4)) (1 + n / 16 % 40) ww (n / 640 % 7)) := mk_mv (inn_mk (by omega) (by omega)) (inn_mk (by omega) (by omega)) hw2 (inn_mk (by omega) (by omega))
      have h5 : ps.length ≤ 2 := by have := hst.len; omega
      refine ⟨p, refs ps, _, rfl, rfl, by rw [upd_ne (ne_of_none h1p1 ht)]; exact h1p1, by rw [refs_len]; exact small1000 (by omega), ?_⟩
      rw [refs_snoc]
      obtain ⟨m1, m2⟩ := hst1.more (g := .five "main" (some (1 + n / 4 % 4)) (1 + n / 16 % 40) ww (n / 640 % 7)) h1p1 ht
      refine ⟨⟨_, _, _, rfl⟩, same_out (sm1.trans (same_upd ht)) hp, _, _, m2, m1, by rw [List.length_append]; simp; omega, fun g hg => ?_⟩
      rcases List.mem_append.mp hg with z | z
      · exact hmv g z
      · simp at z; subst z; exact hmvg
    · rintro σ H1 ⟨⟨v3, v4, v5, rfl⟩, sm, ps, gs, h1p, hst, hgl, hmv⟩
      walk_at "rd"
      refine ⟨l, ns, _, rfl, sm.seq hl, fun n => ?_⟩
      walk_at "rs"
      have n0 := Int.emod_nonneg n (show (3 : Int) ≠ 0 by decide)
      have n1 := Int.emod_lt_of_pos n (show (0 : Int) < 3 by decide)
      have hpl : ps.length ≤ 2 := by have := hst.len; omega
      have hgl2 : gs.length ≤ 2 := by have := hst.len; omega
      refine rd_joinIf (fun σ' H' => ∃ v5 ts ps', σ' = [some (.ref l), some (.int kk), some (.ref p), v3, some (.int n), v5] ∧ Same H H' ∧ H' p = some (.lst (refs ps')) ∧ StAt H' ps' (gs ++ ts) ∧ ((ts = [] ∧ n % 3 = 2) ∨ ∃ g, ts = [g] ∧ isEn g)) ?_ ?_
      · rintro σ' H2 ⟨v5', ts, ps', rfl, sm2, h2p, hst2, hts⟩
        have hpl2 : ps'.length ≤ 3 := by
          have := hst2.len
          rw [List.length_append] at this
          rcases hts with ⟨rfl, _⟩ | ⟨g, rfl, _⟩
          · simp at this; omega
          · simp at this; omega
        walk_at "rd"
        refine rd_ite (fun hpos => ?_) (fun hpos => ?_)
        · walk_at "rd"
          refine ⟨.inl ⟨rfl, _, SqL.of h2p⟩, ?_⟩
          walk_at "rd"
          refine ⟨by show 3 ≤ sizeLine; decide, fun t ht => ?_⟩
          walk_at "rd"
          refine ⟨p, refs ps', _, rfl, rfl, by rw [upd_ne (ne_of_none h2p ht)]; exact h2p, by rw [refs_len]; exact small1000 (by omega), ?_⟩
          rw [refs_snoc]
          have a1 := Int.emod_nonneg (n / 7000) (show (4 : Int) ≠ 0 by decide)
          have a2 := Int.emod_lt_of_pos (n / 7000) (show (0 : Int) < 4 by decide)
          have b1 := Int.emod_nonneg (n / 28000) (show (12 : Int) ≠ 0 by decide)
          have b2 := Int.emod_lt_of_pos (n / 28000) (show (0 : Int) < 12 by decide)
          have hov : isOv (.three "over" (1 + n / 7000 % 4) (1 + n / 28000 % 12)) := mk_ov (inn_mk (by omega) (by omega)) (inn_mk (by omega) (by omega))
          obtain ⟨m1, m2⟩ := hst2.more (g := .three "over" (1 + n / 7000 % 4) (1 + n / 28000 % 12)) h2p ht
          walk_at "rd"
          rw [List.append_assoc] at m1
          refine k _ p _ _ (same_out (sm2.trans (same_upd ht)) hp) hp m2 m1 (drawn_of hmv ?_ hgl2)
          rcases hts with ⟨rfl, _⟩ | ⟨g, rfl, hg⟩
          · exact .inl ⟨_, rfl, .inr hov⟩
          · exact .inr ⟨_, _, rfl, hg, hov⟩
        · walk_at "rd"
          refine k _ p _ _ sm2 hp h2p hst2 (drawn_of hmv ?_ hgl2)
          rcases hts with ⟨rfl, z⟩ | ⟨g, rfl, hg⟩
          · omega
          · exact .inl ⟨_, rfl, .inl hg⟩
      · intro nx hnx
        refine rd_ifS (rd_gen (fun b H2 => Same H H2 ∧ H2 p = some (.lst (refs ps)) ∧ StAt H2 ps gs ∧ (b = false → n % 3 = 2)) ?_ ?_)
        · rintro b H2 ⟨sm2, h2p, hst2, hb⟩
          refine rd_iteB (fun hbt => ?_) (fun hbf => ?_)
          · walk_at "rd"
            refine ⟨by show 4 ≤ sizeLine; decide, fun q hq => ?_⟩
            walk_at "rd"
            obtain ⟨ww, hw1, hw2⟩ := four (Int.emod_nonneg (n / 3) (show (4 : Int) ≠ 0 by decide)) (Int.emod_lt_of_pos (n / 3) (show (0 : Int) < 4 by decide))
            refine rd_ixL (SqL.of upd_same) hw1 ?_
            have sm1 := sm2.trans (same_upd (o := .lst ways) hq)
            have hst1 := hst2.same (same_upd (o := .lst ways) hq)
            have h1p1 : (upd H2 q (.lst ways)) p = some (.lst (refs ps)) := by rw [upd_ne (ne_of_none h2p hq)]; exact h2p
            walk_at "rd"
            refine ⟨.inl ⟨rfl, _, SqL.of h1p1⟩, ?_⟩
            walk_at "rd"
            refine ⟨by show 5 ≤ sizeLine; decide, fun t ht => ?_⟩
            walk_at "rd"
            refine ⟨p, refs ps, _, rfl, rfl, by rw [upd_ne (ne_of_none h1p1 ht)]; exact h1p1, by rw [refs_len]; exact small1000 (by omega), ?_⟩
            rw [refs_snoc]
            have b1 := Int.emod_nonneg (n / 12) (show (60 : Int) ≠ 0 by decide)
            have b2 := Int.emod_lt_of_pos (n / 12) (show (0 : Int) < 60 by decide)
            have c1 := Int.emod_nonneg (n / 720) (show (9 : Int) ≠ 0 by decide)
            have c2 := Int.emod_lt_of_pos (n / 720) (show (0 : Int) < 9 by decide)
            have hen : isEn (.five "main" none (1 + n / 12 % 60) ww (n / 720 % 9)) := mk_en (inn_mk (by omega) (by omega)) hw2 (inn_mk (by omega) (by omega))
            obtain ⟨m1, m2⟩ := hst1.more (g := .five "main" none (1 + n / 12 % 60) ww (n / 720 % 9)) h1p1 ht
            exact hnx _ _ ⟨_, _, _, rfl, same_out (sm1.trans (same_upd ht)) hp, m2, m1, .inr ⟨_, rfl, hen⟩⟩
          · walk_at "rd"
            exact hnx _ _ ⟨v5, [], ps, rfl, sm2, h2p, by rw [List.append_nil]; exact hst2, .inl ⟨rfl, hb hbf⟩⟩
        · intro QB hQ
          walk_at "rd"
          refine rd_ite (fun h1 => ?_) (fun h1 => ?_)
          · exact hQ _ _ ⟨sm, h1p, hst, fun z => by cases z⟩
          · have hn2 : n % 3 = 2 := by omega
            walk_at "rd"
            refine ⟨by show 0 ≤ sizeLine; decide, fun q hq => ?_⟩
            have sm1 := sm.trans (same_upd (o := .lst []) hq)
            have hst1 := hst.same (same_upd (o := .lst []) hq)
            have h1p1 : (upd H1 q (.lst [])) p = some (.lst (refs ps)) := by rw [upd_ne (ne_of_none h1p hq)]; exact h1p
            have hfin : ∀ b, QB b (upd H1 q (.lst [])) := fun b => hQ _ _ ⟨sm1, h1p1, hst1, fun _ => hn2⟩
            refine ⟨p, q, refs ps, [], rfl, rfl, SqL.of h1p1, SqL.of upd_same, ?_⟩
            cases ps with
            | nil =>
              refine .inr ⟨rfl, fun v hv => absurd (show v ∈ ([] : List V) from hv) List.not_mem_nil, ?_⟩
              walk_at "rd"
              exact hfin _
            | cons y ys =>
              refine .inl ⟨by rw [refs_len]; simp, ?_⟩
              walk_at "rd"
              exact hfin _
def spLMain : Sp := fun vs H Q _ => ∃ p g b, vs = [.ref p, .bl b] ∧ H p = some (.tup (Sg.vs g)) ∧ ∀ H', Same H H' → Q (.bl (lawMain g b)) H'
theorem ok_law_main (T : Txt K mg a) : Has P w K mg base CX0 1 "_law_main" ["_law_stage", "_law_last"] spLMain := by
  refine T.f_law_main.has fun f fd F => F.ok sc_law_main (fun vs H Q E h => ?_) (fun cdv A outer s H vs Q E hr h => ?_)
  · obtain ⟨p, g, b, rfl, _⟩ := h; rfl
  · obtain ⟨p, g, b, rfl, hp, k⟩ := h
    refine ⟨_, (pss_cons (ps_if (pt_cmpR op_ne (pe_callB call_len_seq (by rfl) T.n_len PySem.boot_len (pa_cons (pv 0) pa_nil)) pe_int (nomark _)) (pss_one (ps_ret pe_bl)) pss_nil) (pss_cons (ps_set (i := 2) sc_law_main.nd rfl (Or.inl rfl) (pe_ix ix_tup (pv 0) pe_int (fun _ _ => rfl))) (pss_cons (ps_if (PW.pt (pw_and (pt_cmpR op_notN (pv 2) pe_non (nomark _)) (pw_and1 (PW.pt (pw_or (pt_val (pv 1) (fun _ => rfl)) (pw_or1 (pt_not (pt_chain op_le op_le pe_int (pv 2) pe_int)))))))) (pss_one (ps_ret pe_bl)) pss_nil) (pss_one (ps_ret (pe_and (pe_chain op_le op_le pe_int (pe_ix ix_tup (pv 0) pe_int (fun _ _ => rfl)) pe_int) (pe_and (pe_cmpR op_in_seq (pe_ix ix_tup (pv 0) pe_int (fun _ _ => rfl)) (pe_tup (pa_cons pe_str (pa_cons pe_str (pa_cons pe_str (pa_cons pe_str pa_nil))))) (by with_unfolding_all rfl)) (pe_one (pe_chain op_le op_le pe_int (pe_ix ix_tup (pv 0) pe_int (fun _ _ => rfl)) pe_int))))))))), ?_⟩
    walk_at "rd"
    refine ⟨p, _, rfl, .inr (SqT.of hp), ?_⟩
    walk_at "rd"
    cases g with
    | three z q t =>
      refine rd_iteN (fun _ => ?_) (fun h => by cases h)
      walk_at "rd"
      exact k _ (Same.refl _)
    | five z m t w e =>
      refine rd_iteN (fun h => (h rfl).elim) (fun _ => ?_)
      walk_at "rd"
      refine rd_ixT (SqT.of hp) (Sg.at1 _) ?_
      walk_at "rs"
      refine rd_joinIf (fun σ' H' => σ' = [some (.ref p), some (.bl b), some (optV m)] ∧ H' = H ∧ mOkL m b = true) ?_ ?_
      · rintro σ' H' ⟨rfl, rfl, hm⟩
        walk_at "rd"
        refine rd_ixT (SqT.of hp) (Sg.at2 _) ?_
        walk_at "rd"
        refine rd_ite (fun h1 => ?_) (fun h1 => ?_)
        · walk_at "rd"
          refine rd_iteB (fun h2 => ?_) (fun h2 => ?_)
          · have ht : inn t 1 1000000 = true := inn_mk h1 (of_decide_eq_true h2)
            walk_at "rd"
            refine rd_ixT (v := .str w) (SqT.of hp) rfl ?_
            walk_at "rd"
            refine ⟨by show 4 ≤ sizeLine; decide, fun q hq => ?_⟩
            have hp1 : (upd H' q (.tup ways)) p = some (.tup (Sg.vs (.five z m t w e))) := same_upd hq _ _ hp
            refine ⟨q, ways, rfl, .inr (SqT.of upd_same), rfl, rfl, ?_⟩
            rw [if_neg Bool.false_ne_true]
            walk_at "rd"
            refine rd_iteB (fun hw => ?_) (fun hw => ?_)
            · walk_at "rd"
              refine rd_ixT (v := .int e) (SqT.of hp1) rfl ?_
              walk_at "rd"
              refine rd_ite (fun h3 => ?_) (fun h3 => ?_)
              · walk_at "rd"
                have e1 : lawMain (.five z m t w e) b = decide (e ≤ 1000000) := by rw [lawMain_five, hm, ht, hw]; simp only [inn, h3, decide_true, Bool.true_and]
                rw [← e1]
                exact k _ (same_upd hq)
              · have e1 : lawMain (.five z m t w e) b = false := by rw [lawMain_five, show inn e 0 1000000 = false by simp only [inn, h3, decide_false, Bool.false_and]]; simp only [Bool.and_false]
                rw [e1] at k
                exact k _ (same_upd hq)
            · have e1 : lawMain (.five z m t w e) b = false := by simp only [lawMain_five, hw, Bool.false_and, Bool.and_false]
              rw [e1] at k
              exact k _ (same_upd hq)
          · have ht : inn t 1 1000000 = false := by
              have h2' : decide (t ≤ 1000000) = false := h2
              simp only [inn, h2', Bool.and_false]
            have e1 : lawMain (.five z m t w e) b = false := by simp only [lawMain_five, ht, Bool.false_and, Bool.and_false]
            rw [e1] at k
            exact k _ (Same.refl _)
        · have ht : inn t 1 1000000 = false := by
            have h1' : ¬ 1 ≤ t := h1
            simp only [inn, h1', decide_false, Bool.false_and]
          have e1 : lawMain (.five z m t w e) b = false := by simp only [lawMain_five, ht, Bool.false_and, Bool.and_false]
          rw [e1] at k
          walk_at "rd"
          exact k _ (Same.refl _)
      · intro nx hnx
        walk_at "rd"
        cases m with
        | none =>
          refine rd_iteN (fun h => (h rfl).elim) (fun _ => ?_)
          walk_at "rd"
          exact hnx _ _ ⟨rfl, rfl, rfl⟩
        | some n =>
          refine rd_iteN (fun _ => ?_) (fun h => by cases h)
          have bad : (b = true ∨ inn n 1 200 = false) → lawMain (.five z (some n) t w e) b = false := fun hh => by
            rcases hh with hh | hh
            · simp only [lawMain_five, mOkL, hh, Bool.not_true, Bool.false_and]
            · simp only [lawMain_five, mOkL, hh, Bool.and_false, Bool.false_and]
          walk_at "rd"
          refine rd_iteB (fun hb => ?_) (fun hb => ?_)
          · walk_at "rd"
            rw [bad (.inl hb)] at k
            exact k _ (Same.refl _)
          · walk_at "rd"
            refine ⟨1, n, rfl, rfl, ?_⟩
            walk_at "rd"
            refine rd_ite (fun h1 => ?_) (fun h1 => ?_)
            · walk_at "rd"
              refine ⟨n, 200, rfl, rfl, ?_⟩
              walk_at "rd"
              refine rd_iteN (fun h2 => ?_) (fun h2 => ?_)
              · walk_at "rd"
                rw [bad (.inr (by simp only [inn, h2, decide_false, Bool.and_false]))] at k
                exact k _ (Same.refl _)
              · walk_at "rd"
                exact hnx _ _ ⟨rfl, rfl, by show (!b && inn n 1 200) = true; rw [hb, inn_mk h1 h2]; rfl⟩
            · walk_at "rd"
              rw [bad (.inr (by simp only [inn, h1, decide_false, Bool.false_and]))] at k
              exact k _ (Same.refl _)
def spLGood (K : PySem.W.Frag) : Sp := fun vs H Q _ => ∃ l ps gs, vs = [.ref l] ∧ SqL K H l (refs ps) ∧ StAt H ps gs ∧ ps.length ≤ 100 ∧
  (progOk gs → ∀ H', Same H H' → Q (.bl true) H') ∧ (¬ progOk gs → ∀ H', Same H H' → Q (.bl false) H')
theorem ok_law_good (T : Txt K mg a) : Has P w K mg base CX0 2 "_law_good" ["_law_stages_here"] (spLGood K) := by
  have G_law_main := ok_law_main (P := P) (w := w) (base := base) T
  refine T.f_law_good.has fun f fd F => F.ok sc_law_good (fun vs H Q E h => ?_) (fun cdv A outer s H vs Q E hr h => ?_)
  · obtain ⟨l, ps, gs, rfl, _⟩ := h; rfl
  · obtain ⟨l, ps, gs, rfl, hl, hg, h100, kt, kf⟩ := h
    have hlen : (refs ps).length = ps.length := refs_len ps
    have hgl := hg.len
    refine ⟨_, (pss_cons (ps_for PassesOwn.never rfl (pi_range1 rfl T.n_range (pa_cons (pe_callB call_len_seq (by rfl) T.n_len PySem.boot_len (pa_cons (pv 0) pa_nil)) pa_nil)) (pg_name (i := 1) sc_law_good.nd rfl (Or.inl rfl)) (pss_cons (ps_set (i := 2) sc_law_good.nd rfl (Or.inl rfl) (pe_ix ix_list (pv 0) (pv 1) (fun _ _ => rfl))) (pss_cons (ps_set (i := 3) sc_law_good.nd rfl (Or.inl rfl) (pe_cmpR op_eq (pv 1) (pe_op op_sub (pe_callB call_len_seq (by rfl) T.n_len PySem.boot_len (pa_cons (pv 0) pa_nil)) pe_int) (nomark _))) (pss_one (ps_if (pt_cmpR op_eq (pe_ix ix_tup (pv 2) pe_int (fun _ _ => rfl)) pe_str (nomark _)) (pss_one (ps_if (PW.pt (pw_or (pt_cmpR op_ne (pe_callB call_len_seq (by rfl) T.n_len PySem.boot_len (pa_cons (pv 2) pa_nil)) pe_int (nomark _)) (pw_or (pt_not (pt_val (pv 3) (fun _ => rfl))) (pw_or (pt_not (pt_chain op_le op_le pe_int (pe_ix ix_tup (pv 2) pe_int (fun _ _ => rfl)) pe_int)) (pw_or1 (pt_not (pt_chain op_le op_le pe_int (pe_ix ix_tup (pv 2) pe_int (fun _ _ => rfl)) pe_int))))))) (pss_one (ps_ret pe_bl)) pss_nil)) (pss_one (ps_if (PW.pt (pw_or (pt_cmpR op_ne (pe_ix ix_tup (pv 2) pe_int (fun _ _ => rfl)) pe_str (nomark _)) (pw_or1 (pt_not (pt_val (pe_callH G_law_main hr (pa_cons (pv 2) (pa_cons (pv 3) pa_nil))) (fun _ => rfl)))))) (pss_one (ps_ret pe_bl)) (pss_one (ps_if (PW.pt (pw_and (pt_cmpR op_isN (pe_ix ix_tup (pv 2) pe_int (fun _ _ => rfl)) pe_non (nomark _)) (pw_and (pt_not (pt_val (pv 3) (fun _ => rfl))) (pw_and1 (pt_cmpR op_ne (pe_ix ix_tup (pe_ix ix_list (pv 0) (pe_op op_add (pv 1) pe_int) (fun _ _ => rfl)) pe_int (fun _ _ => rfl)) pe_str (nomark _)))))) (pss_one (ps_ret pe_bl)) pss_nil))))))))) (pss_one (ps_ret (pe_chain op_le op_le pe_int (pe_callB call_len_seq (by rfl) T.n_len PySem.boot_len (pa_cons (pv 0) pa_nil)) pe_int)))), ?_⟩
    walk_at "rd"
    refine ⟨l, _, rfl, .inl hl, ?_⟩
    walk_at "rd"
    refine ⟨_, rfl, by omega, by omega, for_range (lo := 0) (fun i σ H1 => (∃ v1 v2 v3, σ = [some (.ref l), v1, v2, v3]) ∧ Same H H1 ∧ ∀ (j : Nat) g, j < i → gs[j]? = some g → stB g (decide (j + 1 = gs.length)) gs[j + 1]? = true)
      ⟨⟨none, none, none, rfl⟩, Same.refl _, fun j g hj => absurd hj (Nat.not_lt_zero _)⟩ ?_ ?_⟩
    · rintro i σ H1 hi ⟨⟨v1, v2, v3, rfl⟩, sm, hall⟩
      have hil : i < ps.length := by omega
      have hg1 := hg.same sm
      obtain ⟨g, hgi, hp⟩ := hg1.get (List.getElem?_eq_getElem hil)
      have r0 : (refs ps)[i]? = some (.ref ps[i]) := by unfold refs; rw [List.getElem?_map, List.getElem?_eq_getElem hil]; rfl
      have good : stB g (decide (i + 1 = gs.length)) gs[i + 1]? = true → ∀ (j : Nat) g', j < i + 1 → gs[j]? = some g' → stB g' (decide (j + 1 = gs.length)) gs[j + 1]? = true := fun hh j g' hj hj' => by
        by_cases ej : j = i
        · subst ej; rw [hgi] at hj'; cases hj'; exact hh
        · exact hall j g' (by omega) hj'
      have bad : stB g (decide (i + 1 = gs.length)) gs[i + 1]? = false → ∀ H', Same H H' → Q (.bl false) H' := fun hh => kf fun z => by
        have z2 := stB_of z.2.2.1 z.2.2.2 hgi
        rw [hh] at z2; cases z2
      walk_at "rd"
      refine rd_ixL (sm.seq hl) (by rw [show (0 : Int) + (i : Int) = (i : Int) by omega]; exact atI_nat r0) ?_
      walk_at "rd"
      refine ⟨l, _, rfl, .inl (sm.seq hl), ?_⟩
      walk_at "rd"
      have hlast : decide (V.int (0 + (i : Int)) = V.int (((refs ps).length : Nat) - 1)) = decide (i + 1 = gs.length) := by
        rw [dec_int]
        by_cases hh : i + 1 = gs.length
        · rw [decide_eq_true hh, beq_iff_eq]; omega
        · rw [decide_eq_false hh, beq_eq_false_iff_ne]; omega
      rw [hlast]
      generalize hL : decide (i + 1 = gs.length) = last at good bad
      refine rd_ixT (SqT.of hp) g.at0 ?_
      walk_at "rd"
      refine rd_iteB (fun ho => ?_) (fun ho => ?_)
      · -- over
        have ho' : g.isW "over" = true := ho
        have est : stB g last gs[i + 1]? = (goodOver g && last) := by unfold stB; rw [if_pos ho']
        rw [est] at good bad
        walk_at "rd"
        refine ⟨_, _, rfl, .inr (SqT.of hp), ?_⟩
        walk_at "rd"
        cases g with
        | five z m t w e =>
          refine rd_iteN (fun _ => ?_) (fun h => by cases h)
          walk_at "rd"
          exact bad rfl _ sm
        | three z q t =>
          refine rd_iteN (fun h => (h rfl).elim) (fun _ => ?_)
          walk_at "rd"
          refine rd_iteNB (fun hla => ?_) (fun hla => ?_)
          · walk_at "rd"
            exact bad (by rw [hla, Bool.and_false]) _ sm
          · walk_at "rd"
            refine rd_ixT (SqT.of hp) (Sg.at1 _) ?_
            walk_at "rd"
            have fq : inn q 1 200 = false → ∀ H', Same H H' → Q (.bl false) H' := fun hh => bad (by simp only [goodOver, hh, Bool.false_and])
            have ft : inn t 1 1000000 = false → ∀ H', Same H H' → Q (.bl false) H' := fun hh => bad (by simp only [goodOver, hh, Bool.false_and, Bool.and_false])
            refine ⟨1, q, rfl, rfl, ?_⟩
            walk_at "rd"
            refine rd_ite (fun h1 => ?_) (fun h1 => ?_)
            · walk_at "rd"
              refine ⟨q, 200, rfl, rfl, ?_⟩
              walk_at "rd"
              refine rd_iteN (fun h2 => ?_) (fun h2 => ?_)
              · walk_at "rd"
                exact fq (by simp only [inn, h2, decide_false, Bool.and_false]) _ sm
              · walk_at "rd"
                refine rd_ixT (SqT.of hp) (Sg.at2 _) ?_
                walk_at "rd"
                refine rd_ite (fun h3 => ?_) (fun h3 => ?_)
                · walk_at "rd"
                  refine rd_iteN (fun h4 => ?_) (fun h4 => ?_)
                  · walk_at "rd"
                    exact ft (by simp only [inn]; rw [decide_eq_false (show ¬ t ≤ 1000000 from h4)]; exact Bool.and_false _) _ sm
                  · walk_at "rd"
                    exact ⟨⟨_, _, _, rfl⟩, sm, good (by simp only [goodOver, inn_mk h1 h2, inn_mk (show 1 ≤ t from h3) (show t ≤ 1000000 from h4), hla, Bool.and_self])⟩
                · walk_at "rd"
                  exact ft (by simp only [inn]; rw [decide_eq_false (show ¬ 1 ≤ t from h3)]; rfl) _ sm
            · walk_at "rd"
              exact fq (by simp only [inn, h1, decide_false, Bool.false_and]) _ sm
      · have ho' : g.isW "over" = false := ho
        walk_at "rd"
        refine rd_ixT (SqT.of hp) g.at0 ?_
        walk_at "rd"
        have est : stB g last gs[i + 1]? = (g.isW "main" && (lawMain g last && (!(decide (g.one = .non)) || (last || nextOver gs[i + 1]?)))) := by unfold stB; rw [if_neg (by rw [ho']; exact Bool.false_ne_true)]
        rw [est] at good bad
        refine rd_iteNB (fun hm => ?_) (fun hm => ?_)
        · have hm' : g.isW "main" = false := hm
          walk_at "rd"
          exact bad (by rw [hm', Bool.false_and]) _ sm
        · have hm' : g.isW "main" = true := hm
          rw [hm', Bool.true_and] at good bad
          walk_at "rd"
          refine ⟨_, g, last, rfl, hp, fun H2 sm2 => ?_⟩
          have sm12 := sm.trans sm2
          walk_at "rd"
          refine rd_iteNB (fun hlm => ?_) (fun hlm => ?_)
          · walk_at "rd"
            exact bad (by rw [hlm, Bool.false_and]) _ sm12
          · rw [hlm, Bool.true_and] at good bad
            walk_at "rd"
            refine rd_ixT (SqT.of (sm2 _ _ hp)) g.at1 ?_
            walk_at "rd"
            refine rd_iteB (fun hn => ?_) (fun hn => ?_)
            · rw [hn, Bool.not_true, Bool.false_or] at good bad
              walk_at "rd"
              refine rd_iteNB (fun hla => ?_) (fun hla => ?_)
              · rw [hla, Bool.false_or] at good bad
                have hi1 : i + 1 < ps.length := by
                  have := of_decide_eq_false (hL.trans hla)
                  omega
                obtain ⟨g1, hgi1, hp1⟩ := hg1.get (List.getElem?_eq_getElem hi1)
                rw [hgi1] at good bad
                have r1 : (refs ps)[i + 1]? = some (.ref ps[i + 1]) := by unfold refs; rw [List.getElem?_map, List.getElem?_eq_getElem hi1]; rfl
                walk_at "rd"
                refine rd_ixL (sm12.seq hl) (by rw [show (0 : Int) + (i : Int) + 1 = ((i + 1 : Nat) : Int) by omega]; exact atI_nat r1) ?_
                walk_at "rd"
                refine rd_ixT (SqT.of (sm2 _ _ hp1)) g1.at0 ?_
                walk_at "rd"
                refine rd_iteNB (fun h5 => ?_) (fun h5 => ?_)
                · walk_at "rd"
                  exact bad h5 _ sm12
                · walk_at "rd"
                  exact ⟨⟨_, _, _, rfl⟩, sm12, good h5⟩
              · walk_at "rd"
                exact ⟨⟨_, _, _, rfl⟩, sm12, good (by rw [hla, Bool.true_or])⟩
            · walk_at "rd"
              exact ⟨⟨_, _, _, rfl⟩, sm12, good (by rw [hn]; rfl)⟩
    · rintro σ H1 ⟨⟨v1, v2, v3, rfl⟩, sm, hall⟩
      have hok : eachOk gs ∧ orderOk gs := of_stB fun j g hj => hall j g (by have := (List.getElem?_eq_some_iff.mp hj).1; omega) hj
      walk_at "rd"
      refine ⟨l, _, rfl, .inl (sm.seq hl), ?_⟩
      walk_at "rd"
      refine rd_ite (fun h1 => ?_) (fun h1 => ?_)
      · walk_at "rd"
        by_cases h2 : ((refs ps).length : Int) ≤ 5
        · rw [decide_eq_true h2]
          exact kt ⟨by omega, by omega, hok⟩ _ sm
        · rw [decide_eq_false h2]
          exact kf (fun z => h2 (by have := z.2.1; omega)) _ sm
      · exact kf (fun z => h1 (by have := z.1; omega)) _ sm
theorem StAt.set {H : Hp} {ps : List Addr} {gs : List Sg} {j : Nat} {q : Addr} {g : Sg} (x : StAt H ps gs) (h : H q = some (.tup g.vs)) : StAt H (ps.set j q) (gs.set j g) := by
  refine ⟨by rw [List.length_set, List.length_set, x.len], fun i p g' h1 h2 => ?_⟩
  by_cases hi : j = i
  · subst hi
    have hl := x.len
    rw [List.getElem?_set_self' ] at h1 h2
    cases hp : ps[j]? with
    | none => rw [hp] at h1; cases h1
    | some p0 =>
      cases hg : gs[j]? with
      | none => rw [hg] at h2; cases h2
      | some g0 =>
        rw [hp] at h1; rw [hg] at h2
        simp at h1 h2
        subst h1 h2
        exact h
  · rw [List.getElem?_set_ne hi] at h1 h2
    exact x.at_ i p g' h1 h2
theorem refs_set {ps : List Addr} {j : Nat} {q : Addr} : (refs ps).set j (V.ref q) = refs (ps.set j q) := by unfold refs; rw [List.map_set]
theorem refs_erase : ∀ {ps : List Addr} {j : Nat}, (refs ps).eraseIdx j = refs (ps.eraseIdx j)
  | [], _ => rfl
  | _ :: _, 0 => rfl
  | p :: ps, j + 1 => by
    show V.ref p :: (refs ps).eraseIdx j = V.ref p :: refs (ps.eraseIdx j)
    rw [refs_erase]
/-- any addresses of a list that holds stages hold stages -/
theorem StAt.any {H : Hp} {ps qs : List Addr} {gs : List Sg} (x : StAt H ps gs) (h : ∀ q ∈ qs, q ∈ ps) : ∃ hs, StAt H qs hs := by
  induction qs with
  | nil => exact ⟨[], rfl, fun i p g z => by simp at z⟩
  | cons q qs ih =>
    obtain ⟨hs, y⟩ := ih fun r hr => h r (List.mem_cons_of_mem _ hr)
    obtain ⟨i, hi⟩ := List.getElem?_of_mem (h q (List.mem_cons_self ..))
    obtain ⟨g, _, hg⟩ := x.get hi
    refine ⟨g :: hs, by simp [y.len], fun i p g' h1 h2 => ?_⟩
    cases i with
    | zero => simp at h1 h2; subst h1 h2; exact hg
    | succ i => exact y.at_ i p g' (by simpa using h1) (by simpa using h2)
theorem mutG {g : Sg} (hn : natG g) {j : Nat} {v : V} (hj : j < g.vs.length) (h1 : j = 0 ∨ j = 3 → ∃ z, v = .str z) (h2 : ¬ (j = 0 ∨ j = 3) → (∃ i, v = .int i) ∨ (v = .non ∧ j = 1 ∧ V.str g.word = .str "main")) : ∃ g' : Sg, g'.vs = g.vs.set j v := by
  cases g with
  | five z m t w e =>
    have hj5 : j < 5 := hj
    have : j = 0 ∨ j = 1 ∨ j = 2 ∨ j = 3 ∨ j = 4 := by omega
    rcases this with rfl | rfl | rfl | rfl | rfl
    · obtain ⟨z', rfl⟩ := h1 (.inl rfl); exact ⟨.five z' m t w e, rfl⟩
    · rcases h2 (by omega) with ⟨i, rfl⟩ | ⟨rfl, _⟩
      · exact ⟨.five z (some i) t w e, rfl⟩
      · exact ⟨.five z none t w e, rfl⟩
    · rcases h2 (by omega) with ⟨i, rfl⟩ | ⟨_, z, _⟩
      · exact ⟨.five z m i w e, rfl⟩
      · omega
    · obtain ⟨z', rfl⟩ := h1 (.inr rfl); exact ⟨.five z m t z' e, rfl⟩
    · rcases h2 (by omega) with ⟨i, rfl⟩ | ⟨_, z, _⟩
      · exact ⟨.five z m t w i, rfl⟩
      · omega
  | three z p t =>
    have hj3 : j < 3 := hj
    have : j = 0 ∨ j = 1 ∨ j = 2 := by omega
    rcases this with rfl | rfl | rfl
    · obtain ⟨z', rfl⟩ := h1 (.inl rfl); exact ⟨.three z' p t, rfl⟩
    · rcases h2 (by omega) with ⟨i, rfl⟩ | ⟨_, _, hz⟩
      · exact ⟨.three z i t, rfl⟩
      · have hz2 : z = "over" := hn
        subst hz2
        exfalso
        revert hz
        show ¬ V.str "over" = V.str "main"
        decide +kernel
    · rcases h2 (by omega) with ⟨i, rfl⟩ | ⟨_, z, _⟩
      · exact ⟨.three z p i, rfl⟩
      · omega
def someV : List V := [.int 0, .int 1, .int (-1), .int 200, .int 201, .int 1000000, .int 1000001, .non]
theorem some8 {i : Int} (h0 : 0 ≤ i) (h1 : i < 8) : ∃ v, atI someV i = some v ∧ ((∃ k, v = .int k) ∨ v = .non) := by
  have : i = 0 ∨ i = 1 ∨ i = 2 ∨ i = 3 ∨ i = 4 ∨ i = 5 ∨ i = 6 ∨ i = 7 := by omega
  rcases this with rfl | rfl | rfl | rfl | rfl | rfl | rfl | rfl
  all_goals first | exact ⟨_, rfl, .inl ⟨_, rfl⟩⟩ | exact ⟨_, rfl, .inr rfl⟩
def wordV : List V := [.str "main", .str "over", .str "mains", .str "add", .str "", .str "waits"]
theorem word6 {i : Int} (h0 : 0 ≤ i) (h1 : i < 6) : ∃ z, atI wordV i = some (.str z) := by
  have : i = 0 ∨ i = 1 ∨ i = 2 ∨ i = 3 ∨ i = 4 ∨ i = 5 := by omega
  rcases this with rfl | rfl | rfl | rfl | rfl | rfl
  all_goals exact ⟨_, rfl⟩
theorem ixN_nat {n j : Nat} (h : j < n) : ixN n (j : Int) = some j := by
  unfold ixN
  rw [if_pos (Int.natCast_nonneg j), if_pos (by omega)]
  rfl
theorem emod_nat {i : Int} {n : Nat} (h : 0 < n) : ∃ j : Nat, i % (n : Int) = (j : Int) ∧ j < n := by
  have h1 := Int.emod_nonneg i (show (n : Int) ≠ 0 by omega)
  have h2 := Int.emod_lt_of_pos i (show (0 : Int) < (n : Int) by omega)
  exact ⟨(i % (n : Int)).toNat, by omega, by omega⟩
theorem refs_at {ps : List Addr} {j : Nat} (h : j < ps.length) : (refs ps)[j]? = some (.ref ps[j]) := by unfold refs; rw [List.getElem?_map, List.getElem?_eq_getElem h]; rfl
theorem sgLen (g : Sg) : 0 < g.vs.length ∧ g.vs.length ≤ 5 := by
  cases g with
  | five z m t w e => exact ⟨by show 0 < 5; decide, by show 5 ≤ 5; decide⟩
  | three z p t => exact ⟨by show 0 < 3; decide, by show 3 ≤ 5; decide⟩
theorem refs_of {ps : List Addr} : ∀ {xs : List V}, (∀ v ∈ xs, v ∈ refs ps) → ∃ qs, xs = refs qs ∧ ∀ q ∈ qs, q ∈ ps
  | [], _ => ⟨[], rfl, fun q h => by simp at h⟩
  | x :: xs, h => by
    obtain ⟨qs, e, hq⟩ := refs_of (ps := ps) fun v hv => h v (List.mem_cons_of_mem _ hv)
    have hx := h x (List.mem_cons_self ..)
    unfold refs at hx
    obtain ⟨y, hy, rfl⟩ := List.mem_map.mp hx
    refine ⟨y :: qs, by rw [e]; rfl, fun q hh => ?_⟩
    rcases List.mem_cons.mp hh with rfl | z
    · exact hy
    · exact hq q z
theorem mem_cut {xs : List V} {lo hi : Option Int} {v : V} (h : v ∈ cutV xs lo hi) : v ∈ xs := by
  unfold cutV at h
  exact List.mem_of_mem_drop (List.mem_of_mem_take h)
def spLaw (K : PySem.W.Frag) : Sp := fun vs H Q _ => ∃ (a : Addr) (ns : List Int), vs = [.ref a] ∧ SqL K H a (ns.map V.int) ∧ ns.length ≤ 63 ∧ ∀ H', Q (.bl true) H'
theorem ok_law {f : Addr} {fd : FuncData} (T : Txt K mg a) (F : Fun K "law" "law" s_law f fd) : FnOk P w K mg base CX0 12 f fd ["_law_script"] (spLaw K) := by
  have G_law_stages := ok_law_stages (P := P) (w := w) (base := base) T
  have G_law_mix := ok_law_mix (P := P) (w := w) (base := base) T
  have G_law_good := ok_law_good (P := P) (w := w) (base := base) T
  have G_Clock_init := ok_Clock_init (P := P) (w := w) (base := base) T
  refine F.ok sc_law (fun vs H Q E h => ?_) (fun cdv A outer s H vs Q E hr h => ?_)
  · obtain ⟨l, ns, rfl, _⟩ := h; rfl
  · obtain ⟨l, ns, rfl, hl, h63, k⟩ := h
    have hu := hu_of hr
    refine ⟨_, (pss_cons (ps_set (i := 1) sc_law.nd rfl (Or.inl rfl) (pe_callH G_law_stages hr (pa_cons (pv 0) (pa_cons pe_int pa_nil)))) (pss_cons (ps_set (i := 2) sc_law.nd rfl (Or.inl rfl) (pe_callH G_law_mix hr (pa_cons (pv 0) (pa_cons pe_int pa_nil)))) (pss_cons (ps_set (i := 3) sc_law.nd rfl (Or.inl rfl) (pe_op op_mod (pe_op op_fdiv (pv 2) pe_int) (pe_callB call_len_seq (by rfl) T.n_len PySem.boot_len (pa_cons (pv 1) pa_nil)))) (pss_cons (ps_if (pt_cmpR op_lt (pe_op op_mod (pv 2) pe_int) pe_int (nomark _)) (pss_cons (ps_set (i := 4) sc_law.nd rfl (Or.inl rfl) (pe_callTy call_list_of (by rfl) T.n_list boot_list (pa_cons (pe_ix ix_list (pv 1) (pv 3) (fun _ _ => rfl)) pa_nil))) (pss_cons (ps_set (i := 5) sc_law.nd rfl (Or.inl rfl) (pe_op op_mod (pe_op op_fdiv (pv 2) pe_int) (pe_callB call_len_seq (by rfl) T.n_len PySem.boot_len (pa_cons (pv 4) pa_nil)))) (pss_cons (ps_set (i := 6) sc_law.nd rfl (Or.inl rfl) (pe_lst (pa_cons pe_int (pa_cons pe_int (pa_cons (pe_un un_neg pe_int) (pa_cons pe_int (pa_cons pe_int (pa_cons pe_int (pa_cons pe_int (pa_cons pe_non pa_nil)))))))))) (pss_cons (ps_set (i := 7) sc_law.nd rfl (Or.inl rfl) (pe_ix ix_list (pv 6) (pe_op op_mod (pe_op op_fdiv (pv 2) pe_int) pe_int) (fun _ _ => rfl))) (pss_cons (ps_if (PW.pt (pw_or (pt_cmpR op_eq (pv 5) pe_int (nomark _)) (pw_or1 (pt_cmpR op_eq (pv 5) pe_int (nomark _))))) (pss_one (ps_set (i := 7) sc_law.nd rfl (Or.inl rfl) (pe_ix ix_list (pe_lst (pa_cons pe_str (pa_cons pe_str (pa_cons pe_str (pa_cons pe_str (pa_cons pe_str (pa_cons pe_str pa_nil))))))) (pe_op op_mod (pe_op op_fdiv (pv 2) pe_int) pe_int) (fun _ _ => rfl)))) pss_nil) (pss_cons (ps_if (PW.pt (pw_or (pt_cmpR op_notN (pv 7) pe_non (nomark _)) (pw_or1 (PW.pt (pw_and (pt_cmpR op_eq (pv 5) pe_int (nomark _)) (pw_and1 (pt_cmpR op_eq (pe_ix ix_list (pv 4) pe_int (fun _ _ => rfl)) pe_str (nomark _)))))))) (pss_one (ps_asg (pv 7) (pg_sub (pv 4) (pv 5) set_list))) pss_nil) (pss_one (ps_asg (pe_callTy call_tuple_of (by rfl) T.n_tuple boot_tuple (pa_cons (pv 4) pa_nil)) (pg_sub (pv 1) (pv 3) set_list))))))))) pss_nil) (pss_cons (ps_if (pt_cmpR op_eq (pe_op op_mod (pv 2) pe_int) pe_int (nomark _)) (pss_one (ps_expr (pe_bm PySem.F.plainAttrs_list PySem.F.slot_list_pop PySem.F.type_list_pop mt_popAt (pv 1) (pa_cons (pv 3) pa_nil)))) pss_nil) (pss_cons (ps_if (pt_cmpR op_eq (pe_op op_mod (pv 2) pe_int) pe_int (nomark _)) (pss_cons (ps_set (i := 8) sc_law.nd rfl (Or.inl rfl) (pe_op op_rep (pe_lst (pa_cons (pe_ix ix_list (pv 1) (pv 3) (fun _ _ => rfl)) pa_nil)) (pe_op op_add pe_int (pe_op op_mod (pe_op op_fdiv (pv 2) pe_int) pe_int)))) (pss_one (ps_set (i := 1) sc_law.nd rfl (Or.inl rfl) (pe_op op_cat (pe_op op_cat (pe_slice sl_list (pv 1) po_none (po_some (pv 3))) (pv 8)) (pe_slice sl_list (pv 1) (po_some (pv 3)) po_none))))) pss_nil) (pss_cons (ps_if (pt_cmpR op_eq (pe_op op_mod (pv 2) pe_int) pe_int (nomark _)) (pss_one (ps_set (i := 1) sc_law.nd rfl (Or.inl rfl) (pe_rev (pv 1)))) pss_nil) (pss_cons (ps_set (i := 9) sc_law.nd rfl (Or.inl rfl) (pe_callTy call_list_of (by rfl) T.n_list boot_list (pa_cons (pv 1) pa_nil))) (pss_cons (ps_set (i := 10) sc_law.nd rfl (Or.inl rfl) pe_non) (pss_cons (ps_try (i := 10) (j := 11) rfl rfl rfl (psx_expr (pex_makeH G_Clock_init T.g_Clock hr (pa_cons (pv 9) pa_nil))) rfl T.g_ClockError sc_law.nd rfl rfl (by decide) rfl rfl) (pss_cons (ps_if (pt_val (pe_callH G_law_good hr (pa_cons (pv 1) pa_nil)) (fun _ => rfl)) (pss_one (ps_ret (pe_and (pe_cmpR op_isN (pv 10) pe_non (nomark _)) (pe_one (pe_cmpR (op_eqL hu) (pv 9) (pv 1) (nomark _)))))) pss_nil) (pss_cons (ps_set (i := 12) sc_law.nd rfl (Or.inl rfl) (pe_and (pe_callB call_isinstX (by rfl) T.n_isinstance boot_isinstance (pa_cons (pv 10) (pa_cons (pe_gR rfl T.g_BadStages) pa_nil))) (pe_and (pe_callB call_isinstX (by rfl) T.n_isinstance boot_isinstance (pa_cons (pv 10) (pa_cons (pe_bT rfl T.n_ValueError boot_ValueError) pa_nil))) (pe_one (pe_cmpR (op_eqL hu) (pv 9) (pv 1) (nomark _)))))) (pss_one (ps_ret (pe_and (pv 12) (pe_one (pe_not (pe_callB call_isinstXs (by rfl) T.n_isinstance boot_isinstance (pa_cons (pv 10) (pa_cons (pe_tup (pa_cons (pe_gR rfl T.g_BadTicks) (pa_cons (pe_gR rfl T.g_NotNow) (pa_cons (pe_gR rfl T.g_Over) pa_nil)))) pa_nil)))))))))))))))))))), ?_⟩
    walk_at "rd"
    refine ⟨l, ns, 0, rfl, hl, fun H1 p ps gs sm1 hpn hp hst hdr => ?_⟩
    walk_at "rd"
    refine ⟨l, ns, 10, rfl, sm1.seq hl, fun n => ?_⟩
    walk_at "rd"
    refine ⟨p, _, rfl, .inl (SqL.of hp), ?_⟩
    have hgl := hst.len
    have hp1 : 1 ≤ ps.length := by have := hdr.ok.1; omega
    have hp4 : ps.length ≤ 4 := by have := hdr.len; omega
    refine rd_I (show (0 : Int) < ((refs ps).length : Int) by rw [refs_len]; omega) ?_
    obtain ⟨j, hj, hjl⟩ := emod_nat (i := n / 8) (show 0 < (refs ps).length by rw [refs_len]; omega)
    rw [hj]
    rw [refs_len] at hjl
    walk_at "rs"
    refine rd_joinIf (fun σ' H' => ∃ v4 v5 v6 v7 ps gs, σ' = [some (.ref l), some (.ref p), some (.int n), some (.int j), v4, v5, v6, v7, none, none, none, none, none] ∧ H' p = some (.lst (refs ps)) ∧ StAt H' ps gs ∧ ps.length ≤ 4 ∧ j < ps.length) ?_ ?_
    · rintro σ' H2 ⟨v4, v5, v6, v7, ps, gs, rfl, hp, hst, hp4, hjl⟩
      walk_at "rs"
      refine rd_joinIf (fun σ' H' => ∃ ps gs, σ' = [some (.ref l), some (.ref p), some (.int n), some (.int j), v4, v5, v6, v7, none, none, none, none, none] ∧ H' p = some (.lst (refs ps)) ∧ StAt H' ps gs ∧ ps.length ≤ 4 ∧ (n % 8 ≠ 4 → j < ps.length)) ?_ ?_
      · rintro σ' H3 ⟨ps, gs, rfl, hp, hst, hp4, hjl⟩
        walk_at "rs"
        refine rd_joinIf (fun σ' H' => ∃ p v8 ps gs, σ' = [some (.ref l), some (.ref p), some (.int n), some (.int j), v4, v5, v6, v7, v8, none, none, none, none] ∧ H' p = some (.lst (refs ps)) ∧ StAt H' ps gs ∧ ps.length ≤ 20) ?_ ?_
        · rintro σ' H4 ⟨p, v8, ps, gs, rfl, hp, hst, hp4⟩
          walk_at "rs"
          refine rd_joinIf (fun σ' H' => ∃ p ps gs, σ' = [some (.ref l), some (.ref p), some (.int n), some (.int j), v4, v5, v6, v7, v8, none, none, none, none] ∧ H' p = some (.lst (refs ps)) ∧ StAt H' ps gs ∧ ps.length ≤ 20) ?_ ?_
          · rintro σ' H5 ⟨p, ps, gs, rfl, hp, hst, hp4⟩
            walk_at "rd"
            refine ⟨p, _, rfl, .inl (SqL.of hp), fun hd hhd => ?_⟩
            have sm5 : Same H5 (upd H5 hd (.lst (refs ps))) := same_upd hhd
            generalize hH6 : upd H5 hd (.lst (refs ps)) = H6 at sm5
            have hp6 := sm5 _ _ hp
            have hst6 := hst.same sm5
            have hhd6 : H6 hd = some (.lst (refs ps)) := by rw [← hH6]; exact upd_same
            walk_at "rs"
            refine rd_join (fun σ' H' => ∃ vk, σ' = [some (.ref l), some (.ref p), some (.int n), some (.int j), v4, v5, v6, v7, v8, some (.ref hd), some vk, none, none] ∧ Same H6 H' ∧ ((progOk gs ∧ vk = .non) ∨ (¬ progOk gs ∧ ∃ x, vk = .ref x ∧ H' x = some (.ext (IsExc x a.xBadStages))))) ?_ ?_
            · rintro σ' H7 ⟨vk, rfl, sm7, hvk⟩
              have eqv : ∀ {H8 : Hp} {Q' : VK}, Same H6 H8 → Q' (.bl true) H8 → rEqL K (.ref hd) (.ref p) H8 Q' := fun {H8 Q'} s8 q8 => ⟨hd, p, refs ps, refs ps, rfl, rfl, SqL.of (s8 _ _ hhd6), SqL.of (s8 _ _ hp6), .inr ⟨rfl, fun v hv => by
                unfold refs at hv
                obtain ⟨y, _, hy⟩ := List.mem_map.mp hv
                exact ⟨y, hy.symm⟩, q8⟩⟩
              walk_at "rd"
              refine ⟨p, ps, gs, rfl, SqL.of (sm7 _ _ hp6), hst6.same sm7, by omega, fun hok H8 sm8 => ?_, fun hno H8 sm8 => ?_⟩
              · have hv : vk = .non := by
                  rcases hvk with ⟨_, z⟩ | ⟨z, _⟩
                  · exact z
                  · exact absurd hok z
                subst hv
                walk_at "rd"
                refine rd_ite (fun _ => ?_) (fun z => absurd rfl z)
                walk_at "rd"
                exact eqv (sm7.trans sm8) (k _)
              · obtain ⟨x, rfl, hx⟩ : ∃ x, vk = .ref x ∧ H7 x = some (.ext (IsExc x a.xBadStages)) := by
                  rcases hvk with ⟨z, _⟩ | ⟨_, z⟩
                  · exact absurd z hno
                  · exact z
                have hx8 := sm8 _ _ hx
                walk_at "rd"
                refine ⟨x, a.xBadStages, _, _, true, rfl, rfl, hx8, T.x_BadStages, kit_self, ?_⟩
                walk_at "rd"
                refine ⟨x, a.xBadStages, _, _, true, rfl, rfl, hx8, T.x_BadStages, T.k1, ?_⟩
                walk_at "rd"
                refine eqv (sm7.trans sm8) ?_
                walk_at "rd"
                refine ⟨by show 3 ≤ sizeLine; decide, fun tt htt => ?_⟩
                refine ⟨x, a.xBadStages, tt, [a.xBadTicks, a.xNotNow, a.xOver], false, rfl, same_upd htt _ _ hx8, upd_same, T.x_BadStages, T.y0, ?_⟩
                walk_at "rd"
                exact k _
            · intro nx hnx
              walk_at "rd"
              intro y dx hy hdx hne
              have smy : Same H6 (upd (upd H6 dx (.own y)) y (.ins a.cClock dx [])) := fun b o e => by rw [upd_ne (ne_of_none e hy), upd_ne (ne_of_none e hdx)]; exact e
              refine ⟨y, dx, hd, ps, gs, rfl, upd_same, smy _ _ hhd6, hst6.same smy, ?_, ?_⟩
              · intro hok H8 t tp s0 s1 d0 d1 g _ _ kp _ _ _ _ _ _ _ _ _ _
                refine ⟨rfl, hnx _ _ ⟨.non, rfl, fun b o e => kp b o (smy b o e) (ne_of_none e hy), .inl ⟨hok, rfl⟩⟩⟩
              · intro hno H8 sm8
                refine ⟨a.xBadStages, rfl, T.e0, fun x hx => hnx _ _ ⟨.ref x, rfl, (smy.trans sm8).trans (same_upd hx), .inr ⟨hno, x, rfl, upd_same⟩⟩⟩
          · intro nx hnx
            walk_at "rd"
            refine rd_ite (fun h8 => ?_) (fun h8 => ?_)
            · walk_at "rd"
              refine ⟨p, refs ps, rfl, SqL.of hp, fun q hq => ?_⟩
              obtain ⟨hs, hhs⟩ := hst.any (qs := ps.reverse) fun q hq => List.mem_reverse.mp hq
              walk_at "rd"
              exact hnx _ _ ⟨q, ps.reverse, hs, rfl, by rw [upd_same]; unfold refs; rw [List.map_reverse], hhs.same (same_upd hq), by rw [List.length_reverse]; exact hp4⟩
            · walk_at "rd"
              exact hnx _ _ ⟨p, ps, gs, rfl, hp, hst, hp4⟩
        · intro nx hnx
          walk_at "rd"
          refine rd_ite (fun h8 => ?_) (fun h8 => ?_)
          · have hjl2 : j < ps.length := hjl (by have := V.int.inj h8; omega)
            walk_at "rd"
            refine rd_ixL (SqL.of hp) (atI_nat (refs_at hjl2)) ?_
            walk_at "rd"
            refine ⟨by show 1 ≤ sizeLine; decide, fun q hq => ?_⟩
            walk_at "rd"
            have a1 := Int.emod_nonneg (n / 160) (show (6 : Int) ≠ 0 by decide)
            have a2 := Int.emod_lt_of_pos (n / 160) (show (0 : Int) < 6 by decide)
            have hz : 1000 ≤ sizeLine := by decide
            refine ⟨q, _, [.ref ps[j]], rfl, rfl, upd_same, by omega, by omega, by simp only [List.length_singleton]; omega, fun m hm => ?_⟩
            have smq := same_upd (o := .lst [.ref ps[j]]) hq
            have smm := same_upd (o := .lst (List.replicate (1 + n / 160 % 6).toNat [V.ref ps[j]]).flatten) hm
            have sm34 := smq.trans smm
            generalize hH4 : upd (upd H3 q (.lst [.ref ps[j]])) m (.lst (List.replicate (1 + n / 160 % 6).toNat [V.ref ps[j]]).flatten) = H4 at sm34
            have hm4 : H4 m = some (.lst (List.replicate (1 + n / 160 % 6).toNat [V.ref ps[j]]).flatten) := by rw [← hH4]; exact upd_same
            have hp4' := sm34 _ _ hp
            walk_at "rd"
            refine ⟨p, refs ps, rfl, SqL.of hp4', fun q1 hq1 => ?_⟩
            have sm1' := same_upd (o := .lst (cutV (refs ps) none (some (j : Int)))) hq1
            have c1 := cutV_length (refs ps) none (some (j : Int))
            have c2 := cutV_length (refs ps) (some (j : Int)) none
            have c3 := len_rep [V.ref ps[j]] (1 + n / 160 % 6).toNat
            rw [refs_len] at c1 c2
            simp only [List.length_singleton, Nat.mul_one] at c3
            have c4 : (1 + n / 160 % 6).toNat ≤ 6 := by omega
            walk_at "rd"
            refine ⟨q1, m, _, _, rfl, rfl, upd_same, sm1' _ _ hm4, by omega, fun q2 hq2 => ?_⟩
            have sm2' := same_upd (o := .lst (cutV (refs ps) none (some (j : Int)) ++ (List.replicate (1 + n / 160 % 6).toNat [V.ref ps[j]]).flatten)) hq2
            have sm12 := sm1'.trans sm2'
            walk_at "rd"
            refine ⟨p, refs ps, rfl, SqL.of (sm12 _ _ hp4'), fun q3 hq3 => ?_⟩
            have sm3' := same_upd (o := .lst (cutV (refs ps) (some (j : Int)) none)) hq3
            walk_at "rd"
            refine ⟨q2, q3, _, _, rfl, rfl, sm3' _ _ upd_same, upd_same, by rw [List.length_append]; omega, fun q4 hq4 => ?_⟩
            obtain ⟨qs, e, hqs⟩ := refs_of (ps := ps) (xs := cutV (refs ps) none (some (j : Int)) ++ (List.replicate (1 + n / 160 % 6).toNat [V.ref ps[j]]).flatten ++ cutV (refs ps) (some (j : Int)) none) fun v hv => by
              rcases List.mem_append.mp hv with z | z
              · rcases List.mem_append.mp z with z | z
                · exact mem_cut z
                · obtain ⟨y, hy, hvy⟩ := List.mem_flatten.mp z
                  rw [(List.mem_replicate.mp hy).2] at hvy
                  rw [List.mem_singleton.mp hvy]
                  exact List.mem_of_getElem? (refs_at hjl2)
              · exact mem_cut z
            have hlq : qs.length ≤ 20 := by
              have := congrArg List.length e
              rw [refs_len, List.length_append, List.length_append] at this
              omega
            obtain ⟨hs, hhs⟩ := hst.any hqs
            rw [e]
            walk_at "rd"
            exact hnx _ _ ⟨q4, _, qs, hs, rfl, upd_same, hhs.same (sm34.trans ((sm12.trans sm3').trans (same_upd hq4))), hlq⟩
          · walk_at "rd"
            exact hnx _ _ ⟨p, none, ps, gs, rfl, hp, hst, by omega⟩
      · intro nx hnx
        walk_at "rd"
        refine rd_ite (fun h8 => ?_) (fun h8 => ?_)
        · walk_at "rd"
          refine ⟨.inl ⟨rfl, _, SqL.of hp⟩, ?_⟩
          walk_at "rd"
          have hix := ixN_seq (ixN_nat (n := (refs ps).length) (j := j) (by rw [refs_len]; exact hjl))
          refine ⟨p, refs ps, j, j, _, rfl, rfl, hp, by omega, by omega, hix.1, refs_at hjl, ?_⟩
          obtain ⟨hs, hhs⟩ := hst.any (qs := ps.eraseIdx j) fun q hq => List.mem_of_mem_eraseIdx hq
          have hle := len_erase ps j
          walk_at "rd"
          exact hnx _ _ ⟨ps.eraseIdx j, hs, rfl, by rw [upd_same, refs_erase], hhs.lset hp, by omega, fun z => absurd (V.int.inj h8) z⟩
        · walk_at "rd"
          exact hnx _ _ ⟨ps, gs, rfl, hp, hst, hp4, fun _ => hjl⟩
    · intro nx hnx
      walk_at "rd"
      refine rd_ite (fun h8 => ?_) (fun h8 => ?_)
      · obtain ⟨g, hgj, hpj⟩ := hst.get (List.getElem?_eq_getElem hjl)
        have hnat := hdr.nat g (List.mem_of_getElem? hgj)
        have hgl0 := sgLen g
        walk_at "rd"
        refine rd_ixL (SqL.of hp) (atI_nat (refs_at hjl)) ?_
        walk_at "rd"
        refine ⟨_, _, rfl, .inr (SqT.of hpj), fun q hq => ?_⟩
        have sm2 := same_upd (o := .lst g.vs) hq
        walk_at "rd"
        refine ⟨q, _, rfl, .inl (SqL.of upd_same), ?_⟩
        refine rd_I (show (0 : Int) < (g.vs.length : Int) by omega) ?_
        obtain ⟨i, hi, hil⟩ := emod_nat (i := n / 32) hgl0.1
        rw [hi]
        walk_at "rd"
        refine ⟨by show 8 ≤ sizeLine; decide, fun m hm => ?_⟩
        have sm3 := same_upd (o := .lst someV) hm
        have sm23 := sm2.trans sm3
        have hq3 := sm3 _ _ (upd_same (H := H1) (a := q) (o := .lst g.vs))
        walk_at "rd"
        obtain ⟨v, hv1, hv2⟩ := some8 (Int.emod_nonneg (n / 160) (show (8 : Int) ≠ 0 by decide)) (Int.emod_lt_of_pos (n / 160) (show (0 : Int) < 8 by decide))
        refine rd_ixL (SqL.of upd_same) hv1 ?_
        generalize hH3 : upd (upd H1 q (.lst g.vs)) m (.lst someV) = H3 at sm23 hq3
        walk_at "rs"
        refine rd_joinIf (fun σ' H' => ∃ v, σ' = [some (.ref l), some (.ref p), some (.int n), some (.int j), some (.ref q), some (.int i), some (.ref m), some v, none, none, none, none, none] ∧ Same H3 H' ∧ (i = 0 ∨ i = 3 → ∃ z, v = .str z) ∧ (¬ (i = 0 ∨ i = 3) → (∃ k, v = .int k) ∨ v = .non)) ?_ ?_
        · rintro σ' H4 ⟨v, rfl, sm4, hv1, hv2⟩
          have hq4 := sm4 _ _ hq3
          walk_at "rs"
          refine rd_joinIf (fun σ' H' => ∃ g' : Sg, σ' = [some (.ref l), some (.ref p), some (.int n), some (.int j), some (.ref q), some (.int i), some (.ref m), some v, none, none, none, none, none] ∧ H' q = some (.lst g'.vs) ∧ ∀ b o, H4 b = some o → b ≠ q → H' b = some o) ?_ ?_
          · rintro σ' H5 ⟨g', rfl, hq5, kp5⟩
            have hp5 : H5 p = some (.lst (refs ps)) := kp5 _ _ (sm4 _ _ (sm23 _ _ hp)) (ne_of_none hp hq)
            have hst5 : StAt H5 ps gs := ⟨hst.len, fun i' p' g'' h1 h2 => kp5 _ _ (sm4 _ _ (sm23 _ _ (hst.at_ i' p' g'' h1 h2))) (ne_of_none (hst.at_ i' p' g'' h1 h2) hq)⟩
            walk_at "rd"
            refine ⟨q, _, rfl, .inl ⟨SqL.of hq5, fun t ht => ?_⟩⟩
            walk_at "rd"
            refine ⟨p, refs ps, j, j, rfl, rfl, by rw [upd_ne (ne_of_none hp5 ht)]; exact hp5, ixN_nat (by rw [refs_len]; exact hjl), ?_⟩
            rw [refs_set]
            have hst6 := ((hst5.same (same_upd (o := .tup g'.vs) ht)).set (j := j) (q := t) (g := g') upd_same).lset (ys := refs (ps.set j t)) (by rw [upd_ne (ne_of_none hp5 ht)]; exact hp5)
            exact hnx _ _ ⟨_, _, _, _, ps.set j t, _, rfl, upd_same, hst6, by rw [List.length_set]; exact hp4, by rw [List.length_set]; exact hjl⟩
          · intro nx' hnx'
            refine rd_ifS (rd_gen (fun b H5 => H5 = H4 ∧ (b = true → v ≠ .non ∨ (i = 1 ∧ V.str g.word = .str "main"))) ?_ ?_)
            · rintro b H5 ⟨rfl, hb⟩
              refine rd_iteB (fun hbt => ?_) (fun hbf => ?_)
              · obtain ⟨g', hg'⟩ := mutG (j := i) (v := v) hnat hil hv1 fun hz => by
                  rcases hv2 hz with z | z
                  · exact .inl z
                  · rcases hb hbt with y | y
                    · exact absurd z y
                    · exact .inr ⟨z, y⟩
                walk_at "rd"
                refine ⟨q, g.vs, i, i, rfl, rfl, hq4, ixN_nat hil, ?_⟩
                exact hnx' _ _ ⟨g', rfl, by rw [upd_same, hg'], fun b' o e nb => by rw [upd_ne nb]; exact e⟩
              · walk_at "rd"
                exact hnx' _ _ ⟨g, rfl, hq4, fun b' o e _ => e⟩
            · intro QB hQ
              walk_at "rd"
              refine rd_iteN (fun hz => ?_) (fun hz => ?_)
              · exact hQ _ _ ⟨rfl, fun _ => .inl hz⟩
              · walk_at "rd"
                refine rd_ite (fun h1 => ?_) (fun h1 => ?_)
                · walk_at "rd"
                  refine rd_ixL (SqL.of hq4) g.at0 ?_
                  walk_at "rd"
                  exact hQ _ _ ⟨rfl, fun hb => .inr ⟨by have := V.int.inj h1; omega, of_decide_eq_true hb⟩⟩
                · walk_at "rd"
                  exact hQ _ _ ⟨rfl, fun hb => by cases hb⟩
        · intro nx' hnx'
          refine rd_ifS (rd_gen (fun b H5 => H5 = H3 ∧ (b = true ↔ (i = 0 ∨ i = 3))) ?_ ?_)
          · rintro b H5 ⟨rfl, hb⟩
            refine rd_iteB (fun hbt => ?_) (fun hbf => ?_)
            · walk_at "rd"
              refine ⟨by show 6 ≤ sizeLine; decide, fun c hc => ?_⟩
              walk_at "rd"
              obtain ⟨z, hz⟩ := word6 (Int.emod_nonneg (n / 160) (show (6 : Int) ≠ 0 by decide)) (Int.emod_lt_of_pos (n / 160) (show (0 : Int) < 6 by decide))
              refine rd_ixL (SqL.of upd_same) hz ?_
              walk_at "rd"
              exact hnx' _ _ ⟨.str z, rfl, same_upd hc, fun _ => ⟨z, rfl⟩, fun y => absurd (hb.mp hbt) y⟩
            · walk_at "rd"
              exact hnx' _ _ ⟨v, rfl, Same.refl _, fun y => (by rw [hb.mpr y] at hbf; cases hbf), fun _ => hv2⟩
          · intro QB hQ
            walk_at "rd"
            refine rd_ite (fun h1 => ?_) (fun h1 => ?_)
            · exact hQ _ _ ⟨hH3, fun _ => .inl (by have := V.int.inj h1; omega), fun _ => rfl⟩
            · walk_at "rd"
              refine hQ _ _ ⟨hH3, fun hb => .inr (by have := V.int.inj (of_decide_eq_true hb); omega), fun hb => ?_⟩
              rcases hb with rfl | rfl
              · exact absurd rfl h1
              · exact decide_eq_true rfl
      · walk_at "rd"
        exact hnx _ _ ⟨none, none, none, none, ps, gs, rfl, hp, hst, hp4, hjl⟩
end
theorem all_mk {l : PySem.W.OpenLaw} {w : World} {K : PySem.W.Frag} {h : Heap} {mg : Str → Option Value} {fa : Addr} (X : K.In h) (G : h.Ns mainGlobals mg) (hfa : mg "law" = some (.ref fa))
    {f0 : Addr} {od0 an0 : Option Addr} {sl0 : Array (Option Value)} {oc0 kV0 dc0 pm0 cd0 ct0 : Value}
    {f4 : Addr} {od4 an4 : Option Addr} {sl4 : Array (Option Value)} {oc4 kV4 dc4 pm4 cd4 ct4 : Value}
    {f8 : Addr} {od8 an8 : Option Addr} {sl8 : Array (Option Value)} {oc8 kV8 dc8 pm8 cd8 ct8 : Value}
    {f12 : Addr} {od12 an12 : Option Addr} {sl12 : Array (Option Value)} {oc12 kV12 dc12 pm12 cd12 ct12 : Value}
    {f16 : Addr} {od16 an16 : Option Addr} {sl16 : Array (Option Value)} {oc16 kV16 dc16 pm16 cd16 ct16 : Value}
    {f20 : Addr} {od20 an20 : Option Addr} {sl20 : Array (Option Value)} {oc20 kV20 dc20 pm20 cd20 ct20 : Value}
    {f24 : Addr} {od24 an24 : Option Addr} {sl24 : Array (Option Value)} {oc24 kV24 dc24 pm24 cd24 ct24 : Value}
    {f28 : Addr} {od28 an28 : Option Addr} {sl28 : Array (Option Value)} {oc28 kV28 dc28 pm28 cd28 ct28 : Value}
    {f32 : Addr} {od32 an32 : Option Addr} {sl32 : Array (Option Value)} {oc32 kV32 dc32 pm32 cd32 ct32 : Value}
    {f36 : Addr} {od36 an36 : Option Addr} {sl36 : Array (Option Value)} {oc36 kV36 dc36 pm36 cd36 ct36 : Value}
    {f40 : Addr} {od40 an40 : Option Addr} {sl40 : Array (Option Value)} {oc40 kV40 dc40 pm40 cd40 ct40 : Value}
    {f44 : Addr} {od44 an44 : Option Addr} {sl44 : Array (Option Value)} {oc44 kV44 dc44 pm44 cd44 ct44 : Value}
    {f48 : Addr} {od48 an48 : Option Addr} {sl48 : Array (Option Value)} {oc48 kV48 dc48 pm48 cd48 ct48 : Value}
    {f52 : Addr} {od52 an52 : Option Addr} {sl52 : Array (Option Value)} {oc52 kV52 dc52 pm52 cd52 ct52 : Value}
    {f56 : Addr} {od56 an56 : Option Addr} {sl56 : Array (Option Value)} {oc56 kV56 dc56 pm56 cd56 ct56 : Value}
    {f60 : Addr} {od60 an60 : Option Addr} {sl60 : Array (Option Value)} {oc60 kV60 dc60 pm60 cd60 ct60 : Value}
    {f64 : Addr} {od64 an64 : Option Addr} {sl64 : Array (Option Value)} {oc64 kV64 dc64 pm64 cd64 ct64 : Value}
    {f68 : Addr} {od68 an68 : Option Addr} {sl68 : Array (Option Value)} {oc68 kV68 dc68 pm68 cd68 ct68 : Value}
    {CSide : Addr}
    {CClock : Addr}
    {f74 : Addr} {od74 an74 : Option Addr} {sl74 : Array (Option Value)} {oc74 kV74 dc74 pm74 cd74 ct74 : Value}
    {f79 : Addr} {od79 an79 : Option Addr} {sl79 : Array (Option Value)} {oc79 kV79 dc79 pm79 cd79 ct79 : Value}
    {f86 : Addr} {od86 an86 : Option Addr} {sl86 : Array (Option Value)} {oc86 kV86 dc86 pm86 cd86 ct86 : Value}
    {XClockError : Addr}
    {XBadStages : Addr}
    {XBadTicks : Addr}
    {XNotNow : Addr}
    {XOver : Addr}
    {tMOST_STAGES : Tok}
    {tMOST_MOVES : Tok}
    {tMOST_PERIODS : Tok}
    {tMOST_TICKS : Tok}
    {tMOST_EXTRA : Tok}
    {AW : Addr} {odW : Option Addr} {w1 w2 w3 w4 : Tok} {nW : Nat} {slW : Array (Option Value)}
    (a0 : PySem.W.nsIn K mainGlobals "is_whole_within" = some (some (.ref f0)))
    (l0 : K.lookup f0 = some ⟨oc0, od0, .func (PySem.W.fnOf "is_whole_within" "is_whole_within" (defArgs s_is_whole_within) (defBody s_is_whole_within) (defScope s_is_whole_within) .none kV0 dc0 pm0 an0 cd0 ct0), sl0⟩)
    (c0 : PySem.W.codeIn K cd0 "is_whole_within" = true)
    (k0 : PySem.W.keepIn K (.ref f0) = true)
    (a4 : PySem.W.nsIn K mainGlobals "is_good_main" = some (some (.ref f4)))
    (l4 : K.lookup f4 = some ⟨oc4, od4, .func (PySem.W.fnOf "is_good_main" "is_good_main" (defArgs s_is_good_main) (defBody s_is_good_main) (defScope s_is_good_main) .none kV4 dc4 pm4 an4 cd4 ct4), sl4⟩)
    (c4 : PySem.W.codeIn K cd4 "is_good_main" = true)
    (k4 : PySem.W.keepIn K (.ref f4) = true)
    (a8 : PySem.W.nsIn K mainGlobals "is_good_over" = some (some (.ref f8)))
    (l8 : K.lookup f8 = some ⟨oc8, od8, .func (PySem.W.fnOf "is_good_over" "is_good_over" (defArgs s_is_good_over) (defBody s_is_good_over) (defScope s_is_good_over) .none kV8 dc8 pm8 an8 cd8 ct8), sl8⟩)
    (c8 : PySem.W.codeIn K cd8 "is_good_over" = true)
    (k8 : PySem.W.keepIn K (.ref f8) = true)
    (a12 : PySem.W.nsIn K mainGlobals "is_main" = some (some (.ref f12)))
    (l12 : K.lookup f12 = some ⟨oc12, od12, .func (PySem.W.fnOf "is_main" "is_main" (defArgs s_is_main) (defBody s_is_main) (defScope s_is_main) .none kV12 dc12 pm12 an12 cd12 ct12), sl12⟩)
    (c12 : PySem.W.codeIn K cd12 "is_main" = true)
    (k12 : PySem.W.keepIn K (.ref f12) = true)
    (a16 : PySem.W.nsIn K mainGlobals "is_over" = some (some (.ref f16)))
    (l16 : K.lookup f16 = some ⟨oc16, od16, .func (PySem.W.fnOf "is_over" "is_over" (defArgs s_is_over) (defBody s_is_over) (defScope s_is_over) .none kV16 dc16 pm16 an16 cd16 ct16), sl16⟩)
    (c16 : PySem.W.codeIn K cd16 "is_over" = true)
    (k16 : PySem.W.keepIn K (.ref f16) = true)
    (a20 : PySem.W.nsIn K mainGlobals "is_endless" = some (some (.ref f20)))
    (l20 : K.lookup f20 = some ⟨oc20, od20, .func (PySem.W.fnOf "is_endless" "is_endless" (defArgs s_is_endless) (defBody s_is_endless) (defScope s_is_endless) .none kV20 dc20 pm20 an20 cd20 ct20), sl20⟩)
    (c20 : PySem.W.codeIn K cd20 "is_endless" = true)
    (k20 : PySem.W.keepIn K (.ref f20) = true)
    (a24 : PySem.W.nsIn K mainGlobals "ticks_of" = some (some (.ref f24)))
    (l24 : K.lookup f24 = some ⟨oc24, od24, .func (PySem.W.fnOf "ticks_of" "ticks_of" (defArgs s_ticks_of) (defBody s_ticks_of) (defScope s_ticks_of) .none kV24 dc24 pm24 an24 cd24 ct24), sl24⟩)
    (c24 : PySem.W.codeIn K cd24 "ticks_of" = true)
    (k24 : PySem.W.keepIn K (.ref f24) = true)
    (a28 : PySem.W.nsIn K mainGlobals "is_good_stage" = some (some (.ref f28)))
    (l28 : K.lookup f28 = some ⟨oc28, od28, .func (PySem.W.fnOf "is_good_stage" "is_good_stage" (defArgs s_is_good_stage) (defBody s_is_good_stage) (defScope s_is_good_stage) .none kV28 dc28 pm28 an28 cd28 ct28), sl28⟩)
    (c28 : PySem.W.codeIn K cd28 "is_good_stage" = true)
    (k28 : PySem.W.keepIn K (.ref f28) = true)
    (a32 : PySem.W.nsIn K mainGlobals "may_stand_behind" = some (some (.ref f32)))
    (l32 : K.lookup f32 = some ⟨oc32, od32, .func (PySem.W.fnOf "may_stand_behind" "may_stand_behind" (defArgs s_may_stand_behind) (defBody s_may_stand_behind) (defScope s_may_stand_behind) .none kV32 dc32 pm32 an32 cd32 ct32), sl32⟩)
    (c32 : PySem.W.codeIn K cd32 "may_stand_behind" = true)
    (k32 : PySem.W.keepIn K (.ref f32) = true)
    (a36 : PySem.W.nsIn K mainGlobals "check_each" = some (some (.ref f36)))
    (l36 : K.lookup f36 = some ⟨oc36, od36, .func (PySem.W.fnOf "check_each" "check_each" (defArgs s_check_each) (defBody s_check_each) (defScope s_check_each) .none kV36 dc36 pm36 an36 cd36 ct36), sl36⟩)
    (c36 : PySem.W.codeIn K cd36 "check_each" = true)
    (k36 : PySem.W.keepIn K (.ref f36) = true)
    (a40 : PySem.W.nsIn K mainGlobals "check_order" = some (some (.ref f40)))
    (l40 : K.lookup f40 = some ⟨oc40, od40, .func (PySem.W.fnOf "check_order" "check_order" (defArgs s_check_order) (defBody s_check_order) (defScope s_check_order) .none kV40 dc40 pm40 an40 cd40 ct40), sl40⟩)
    (c40 : PySem.W.codeIn K cd40 "check_order" = true)
    (k40 : PySem.W.keepIn K (.ref f40) = true)
    (a44 : PySem.W.nsIn K mainGlobals "read_stages" = some (some (.ref f44)))
    (l44 : K.lookup f44 = some ⟨oc44, od44, .func (PySem.W.fnOf "read_stages" "read_stages" (defArgs s_read_stages) (defBody s_read_stages) (defScope s_read_stages) .none kV44 dc44 pm44 an44 cd44 ct44), sl44⟩)
    (c44 : PySem.W.codeIn K cd44 "read_stages" = true)
    (k44 : PySem.W.keepIn K (.ref f44) = true)
    (a48 : PySem.W.nsIn K mainGlobals "_law_cell" = some (some (.ref f48)))
    (l48 : K.lookup f48 = some ⟨oc48, od48, .func (PySem.W.fnOf "_law_cell" "_law_cell" (defArgs s_law_cell) (defBody s_law_cell) (defScope s_law_cell) .none kV48 dc48 pm48 an48 cd48 ct48), sl48⟩)
    (c48 : PySem.W.codeIn K cd48 "_law_cell" = true)
    (k48 : PySem.W.keepIn K (.ref f48) = true)
    (a52 : PySem.W.nsIn K mainGlobals "_law_mix" = some (some (.ref f52)))
    (l52 : K.lookup f52 = some ⟨oc52, od52, .func (PySem.W.fnOf "_law_mix" "_law_mix" (defArgs s_law_mix) (defBody s_law_mix) (defScope s_law_mix) .none kV52 dc52 pm52 an52 cd52 ct52), sl52⟩)
    (c52 : PySem.W.codeIn K cd52 "_law_mix" = true)
    (k52 : PySem.W.keepIn K (.ref f52) = true)
    (a56 : PySem.W.nsIn K mainGlobals "_law_stages" = some (some (.ref f56)))
    (l56 : K.lookup f56 = some ⟨oc56, od56, .func (PySem.W.fnOf "_law_stages" "_law_stages" (defArgs s_law_stages) (defBody s_law_stages) (defScope s_law_stages) .none kV56 dc56 pm56 an56 cd56 ct56), sl56⟩)
    (c56 : PySem.W.codeIn K cd56 "_law_stages" = true)
    (k56 : PySem.W.keepIn K (.ref f56) = true)
    (a60 : PySem.W.nsIn K mainGlobals "_law_main" = some (some (.ref f60)))
    (l60 : K.lookup f60 = some ⟨oc60, od60, .func (PySem.W.fnOf "_law_main" "_law_main" (defArgs s_law_main) (defBody s_law_main) (defScope s_law_main) .none kV60 dc60 pm60 an60 cd60 ct60), sl60⟩)
    (c60 : PySem.W.codeIn K cd60 "_law_main" = true)
    (k60 : PySem.W.keepIn K (.ref f60) = true)
    (a64 : PySem.W.nsIn K mainGlobals "_law_good" = some (some (.ref f64)))
    (l64 : K.lookup f64 = some ⟨oc64, od64, .func (PySem.W.fnOf "_law_good" "_law_good" (defArgs s_law_good) (defBody s_law_good) (defScope s_law_good) .none kV64 dc64 pm64 an64 cd64 ct64), sl64⟩)
    (c64 : PySem.W.codeIn K cd64 "_law_good" = true)
    (k64 : PySem.W.keepIn K (.ref f64) = true)
    (a68 : PySem.W.nsIn K mainGlobals "law" = some (some (.ref f68)))
    (l68 : K.lookup f68 = some ⟨oc68, od68, .func (PySem.W.fnOf "law" "law" (defArgs s_law) (defBody s_law) (defScope s_law) .none kV68 dc68 pm68 an68 cd68 ct68), sl68⟩)
    (c68 : PySem.W.codeIn K cd68 "law" = true)
    (k68 : PySem.W.keepIn K (.ref f68) = true)
    (gcSide : PySem.W.nsIn K mainGlobals "Side" = some (some (.ref CSide)))
    (gcClock : PySem.W.nsIn K mainGlobals "Clock" = some (some (.ref CClock)))
    (a74 : PySem.W.findIn K (.ref CSide) "begin_stage" = some (some (.ref f74)))
    (i74 : PySem.W.isFn K (.ref f74) = true)
    (l74 : K.lookup f74 = some ⟨oc74, od74, .func (PySem.W.fnOf "begin_stage" "Side.begin_stage" (defArgs s_Side_begin_stage) (defBody s_Side_begin_stage) (defScope s_Side_begin_stage) .none kV74 dc74 pm74 an74 cd74 ct74), sl74⟩)
    (c74 : PySem.W.codeIn K cd74 "Side.begin_stage" = true)
    (k74 : PySem.W.keepIn K (.ref f74) = true)
    (a79 : PySem.W.findIn K (.ref CSide) "__init__" = some (some (.ref f79)))
    (i79 : PySem.W.isFn K (.ref f79) = true)
    (l79 : K.lookup f79 = some ⟨oc79, od79, .func (PySem.W.fnOf "__init__" "Side.__init__" (defArgs s_Side_init) (defBody s_Side_init) (defScope s_Side_init) .none kV79 dc79 pm79 an79 cd79 ct79), sl79⟩)
    (c79 : PySem.W.codeIn K cd79 "Side.__init__" = true)
    (k79 : PySem.W.keepIn K (.ref f79) = true)
    (mk79 : PySem.W.makesIn K CSide = true)
    (kc79 : PySem.W.keepIn K (.ref CSide) = true)
    (a86 : PySem.W.findIn K (.ref CClock) "__init__" = some (some (.ref f86)))
    (i86 : PySem.W.isFn K (.ref f86) = true)
    (l86 : K.lookup f86 = some ⟨oc86, od86, .func (PySem.W.fnOf "__init__" "Clock.__init__" (defArgs s_Clock_init) (defBody s_Clock_init) (defScope s_Clock_init) .none kV86 dc86 pm86 an86 cd86 ct86), sl86⟩)
    (c86 : PySem.W.codeIn K cd86 "Clock.__init__" = true)
    (k86 : PySem.W.keepIn K (.ref f86) = true)
    (mk86 : PySem.W.makesIn K CClock = true)
    (kc86 : PySem.W.keepIn K (.ref CClock) = true)
    (pgSide : PySem.W.plainGet K CSide Str.empty = true)
    (hdSide : PySem.W.hasDictIn K CSide = true)
    (poSide : PySem.W.plainOver K CSide = true)
    (saSide : PySem.W.findIn K (.ref CSide) "__setattr__" = some (some (.builtin "object.__setattr__")))
    (naSidestages : PySem.W.findIn K (.ref CSide) "stages" = some none)
    (naSidenumber : PySem.W.findIn K (.ref CSide) "number" = some none)
    (naSidemoves_in_stage : PySem.W.findIn K (.ref CSide) "moves_in_stage" = some none)
    (naSideleft : PySem.W.findIn K (.ref CSide) "left" = some none)
    (naSideperiods : PySem.W.findIn K (.ref CSide) "periods" = some none)
    (naSidemoves : PySem.W.findIn K (.ref CSide) "moves" = some none)
    (naSidepassed : PySem.W.findIn K (.ref CSide) "passed" = some none)
    (pgClock : PySem.W.plainGet K CClock Str.empty = true)
    (hdClock : PySem.W.hasDictIn K CClock = true)
    (poClock : PySem.W.plainOver K CClock = true)
    (saClock : PySem.W.findIn K (.ref CClock) "__setattr__" = some (some (.builtin "object.__setattr__")))
    (naClocksides : PySem.W.findIn K (.ref CClock) "sides" = some none)
    (naClockturn : PySem.W.findIn K (.ref CClock) "turn" = some none)
    (naClockrunning : PySem.W.findIn K (.ref CClock) "running" = some none)
    (naClockfallen : PySem.W.findIn K (.ref CClock) "fallen" = some none)
    (naClockpassed : PySem.W.findIn K (.ref CClock) "passed" = some none)
    (gxClockError : PySem.W.nsIn K mainGlobals "ClockError" = some (some (.ref XClockError)))
    (exClockError : PySem.W.excIn K XClockError excMro "ValueError.__new__" = true)
    (gaClockError : PySem.W.findIn K (.ref XClockError) "__getattribute__" = some (some (.builtin "BaseException.__getattribute__")))
    (gtClockError : PySem.W.findIn K (.ref XClockError) "__getattr__" = some none)
    (glClockError : PySem.W.findIn K (.ref XClockError) "__class__" = some (some (.builtin "object.__class__")))
    (goClockError : PySem.W.mroIn K XClockError (.type "object") = some true)
    (gbClockError : PySem.W.subIn K (.ref XClockError) (.type "BaseException") = some true)
    (gxBadStages : PySem.W.nsIn K mainGlobals "BadStages" = some (some (.ref XBadStages)))
    (exBadStages : PySem.W.excIn K XBadStages excMro "ValueError.__new__" = true)
    (gaBadStages : PySem.W.findIn K (.ref XBadStages) "__getattribute__" = some (some (.builtin "BaseException.__getattribute__")))
    (gtBadStages : PySem.W.findIn K (.ref XBadStages) "__getattr__" = some none)
    (glBadStages : PySem.W.findIn K (.ref XBadStages) "__class__" = some (some (.builtin "object.__class__")))
    (goBadStages : PySem.W.mroIn K XBadStages (.type "object") = some true)
    (gbBadStages : PySem.W.subIn K (.ref XBadStages) (.type "BaseException") = some true)
    (gxBadTicks : PySem.W.nsIn K mainGlobals "BadTicks" = some (some (.ref XBadTicks)))
    (exBadTicks : PySem.W.excIn K XBadTicks excMro "ValueError.__new__" = true)
    (gaBadTicks : PySem.W.findIn K (.ref XBadTicks) "__getattribute__" = some (some (.builtin "BaseException.__getattribute__")))
    (gtBadTicks : PySem.W.findIn K (.ref XBadTicks) "__getattr__" = some none)
    (glBadTicks : PySem.W.findIn K (.ref XBadTicks) "__class__" = some (some (.builtin "object.__class__")))
    (goBadTicks : PySem.W.mroIn K XBadTicks (.type "object") = some true)
    (gbBadTicks : PySem.W.subIn K (.ref XBadTicks) (.type "BaseException") = some true)
    (gxNotNow : PySem.W.nsIn K mainGlobals "NotNow" = some (some (.ref XNotNow)))
    (exNotNow : PySem.W.excIn K XNotNow excMro "ValueError.__new__" = true)
    (gaNotNow : PySem.W.findIn K (.ref XNotNow) "__getattribute__" = some (some (.builtin "BaseException.__getattribute__")))
    (gtNotNow : PySem.W.findIn K (.ref XNotNow) "__getattr__" = some none)
    (glNotNow : PySem.W.findIn K (.ref XNotNow) "__class__" = some (some (.builtin "object.__class__")))
    (goNotNow : PySem.W.mroIn K XNotNow (.type "object") = some true)
    (gbNotNow : PySem.W.subIn K (.ref XNotNow) (.type "BaseException") = some true)
    (gxOver : PySem.W.nsIn K mainGlobals "Over" = some (some (.ref XOver)))
    (exOver : PySem.W.excIn K XOver excMro "ValueError.__new__" = true)
    (gaOver : PySem.W.findIn K (.ref XOver) "__getattribute__" = some (some (.builtin "BaseException.__getattribute__")))
    (gtOver : PySem.W.findIn K (.ref XOver) "__getattr__" = some none)
    (glOver : PySem.W.findIn K (.ref XOver) "__class__" = some (some (.builtin "object.__class__")))
    (goOver : PySem.W.mroIn K XOver (.type "object") = some true)
    (gbOver : PySem.W.subIn K (.ref XOver) (.type "BaseException") = some true)
    (ccMOST_STAGES : PySem.W.nsIn K mainGlobals "MOST_STAGES" = some (some (.int 5 tMOST_STAGES)))
    (ccMOST_MOVES : PySem.W.nsIn K mainGlobals "MOST_MOVES" = some (some (.int 200 tMOST_MOVES)))
    (ccMOST_PERIODS : PySem.W.nsIn K mainGlobals "MOST_PERIODS" = some (some (.int 200 tMOST_PERIODS)))
    (ccMOST_TICKS : PySem.W.nsIn K mainGlobals "MOST_TICKS" = some (some (.int 1000000 tMOST_TICKS)))
    (ccMOST_EXTRA : PySem.W.nsIn K mainGlobals "MOST_EXTRA" = some (some (.int 1000000 tMOST_EXTRA)))
    (nnlen : PySem.W.nsIn K mainGlobals "len" = some none)
    (nnisinstance : PySem.W.nsIn K mainGlobals "isinstance" = some none)
    (nnrange : PySem.W.nsIn K mainGlobals "range" = some none)
    (nnenumerate : PySem.W.nsIn K mainGlobals "enumerate" = some none)
    (nntuple : PySem.W.nsIn K mainGlobals "tuple" = some none)
    (nnlist : PySem.W.nsIn K mainGlobals "list" = some none)
    (nnint : PySem.W.nsIn K mainGlobals "int" = some none)
    (nnbool : PySem.W.nsIn K mainGlobals "bool" = some none)
    (nnValueError : PySem.W.nsIn K mainGlobals "ValueError" = some none)
    (gW : PySem.W.nsIn K mainGlobals "WAYS" = some (some (.ref AW)))
    (lW : K.lookup AW = some ⟨.type "tuple", odW, .seq #[.str "plain" w1, .str "add" w2, .str "back" w3, .str "wait" w4] nW, slW⟩)
    (kt0 : PySem.W.kitOne K (.type "int") (.type "bool") = some false)
    (kt1 : PySem.W.kitOne K (.ref XBadStages) (.type "ValueError") = some true)
    (em0 : PySem.W.exmOne K (.ref XBadStages) (.ref XClockError) = some true)
    (ka0 : PySem.W.kitAny K (.ref XBadStages) [.ref XBadTicks, .ref XNotNow, .ref XOver] = some false) :
    ∃ fd : FuncData, (∀ (s : Shared) (v : Value), BindsTo s fd ⟨[v], []⟩ [("_law_script", v)]) ∧ ∀ base : Heap, K.In base → base.Ns mainGlobals mg → FnOk l.prog w K mg base CX0 12 fa fd ["_law_script"] (spLaw K) := by
  have e := hfa.symm.trans (PySem.W.mg_of X G a68)
  cases e
  have T : Txt K mg ⟨CSide, CClock, XClockError, XBadStages, XBadTicks, XNotNow, XOver, AW⟩ := ⟨⟨⟨_, _, PySem.W.mg_of X G a0, fun_mk (st := s_is_whole_within) l0 c0 k0, (fun_mk (st := s_is_whole_within) l0 c0 k0).binds fun _ _ _ _ _ _ us hl => match us, hl with | [_, _, _], _ => rfl⟩⟩,
    ⟨⟨_, _, PySem.W.mg_of X G a4, fun_mk (st := s_is_good_main) l4 c4 k4, (fun_mk (st := s_is_good_main) l4 c4 k4).binds fun _ _ _ _ _ _ us hl => match us, hl with | [_], _ => rfl⟩⟩,
    ⟨⟨_, _, PySem.W.mg_of X G a8, fun_mk (st := s_is_good_over) l8 c8 k8, (fun_mk (st := s_is_good_over) l8 c8 k8).binds fun _ _ _ _ _ _ us hl => match us, hl with | [_], _ => rfl⟩⟩,
    ⟨⟨_, _, PySem.W.mg_of X G a12, fun_mk (st := s_is_main) l12 c12 k12, (fun_mk (st := s_is_main) l12 c12 k12).binds fun _ _ _ _ _ _ us hl => match us, hl with | [_], _ => rfl⟩⟩,
    ⟨⟨_, _, PySem.W.mg_of X G a16, fun_mk (st := s_is_over) l16 c16 k16, (fun_mk (st := s_is_over) l16 c16 k16).binds fun _ _ _ _ _ _ us hl => match us, hl with | [_], _ => rfl⟩⟩,
    ⟨⟨_, _, PySem.W.mg_of X G a20, fun_mk (st := s_is_endless) l20 c20 k20, (fun_mk (st := s_is_endless) l20 c20 k20).binds fun _ _ _ _ _ _ us hl => match us, hl with | [_], _ => rfl⟩⟩,
    ⟨⟨_, _, PySem.W.mg_of X G a24, fun_mk (st := s_ticks_of) l24 c24 k24, (fun_mk (st := s_ticks_of) l24 c24 k24).binds fun _ _ _ _ _ _ us hl => match us, hl with | [_], _ => rfl⟩⟩,
    ⟨⟨_, _, PySem.W.mg_of X G a28, fun_mk (st := s_is_good_stage) l28 c28 k28, (fun_mk (st := s_is_good_stage) l28 c28 k28).binds fun _ _ _ _ _ _ us hl => match us, hl with | [_], _ => rfl⟩⟩,
    ⟨⟨_, _, PySem.W.mg_of X G a32, fun_mk (st := s_may_stand_behind) l32 c32 k32, (fun_mk (st := s_may_stand_behind) l32 c32 k32).binds fun _ _ _ _ _ _ us hl => match us, hl with | [_, _], _ => rfl⟩⟩,
    ⟨⟨_, _, PySem.W.mg_of X G a36, fun_mk (st := s_check_each) l36 c36 k36, (fun_mk (st := s_check_each) l36 c36 k36).binds fun _ _ _ _ _ _ us hl => match us, hl with | [_], _ => rfl⟩⟩,
    ⟨⟨_, _, PySem.W.mg_of X G a40, fun_mk (st := s_check_order) l40 c40 k40, (fun_mk (st := s_check_order) l40 c40 k40).binds fun _ _ _ _ _ _ us hl => match us, hl with | [_], _ => rfl⟩⟩,
    ⟨⟨_, _, PySem.W.mg_of X G a44, fun_mk (st := s_read_stages) l44 c44 k44, (fun_mk (st := s_read_stages) l44 c44 k44).binds fun _ _ _ _ _ _ us hl => match us, hl with | [_], _ => rfl⟩⟩,
    ⟨⟨_, _, PySem.W.mg_of X G a48, fun_mk (st := s_law_cell) l48 c48 k48, (fun_mk (st := s_law_cell) l48 c48 k48).binds fun _ _ _ _ _ _ us hl => match us, hl with | [_, _], _ => rfl⟩⟩,
    ⟨⟨_, _, PySem.W.mg_of X G a52, fun_mk (st := s_law_mix) l52 c52 k52, (fun_mk (st := s_law_mix) l52 c52 k52).binds fun _ _ _ _ _ _ us hl => match us, hl with | [_, _], _ => rfl⟩⟩,
    ⟨⟨_, _, PySem.W.mg_of X G a56, fun_mk (st := s_law_stages) l56 c56 k56, (fun_mk (st := s_law_stages) l56 c56 k56).binds fun _ _ _ _ _ _ us hl => match us, hl with | [_, _], _ => rfl⟩⟩,
    ⟨⟨_, _, PySem.W.mg_of X G a60, fun_mk (st := s_law_main) l60 c60 k60, (fun_mk (st := s_law_main) l60 c60 k60).binds fun _ _ _ _ _ _ us hl => match us, hl with | [_, _], _ => rfl⟩⟩,
    ⟨⟨_, _, PySem.W.mg_of X G a64, fun_mk (st := s_law_good) l64 c64 k64, (fun_mk (st := s_law_good) l64 c64 k64).binds fun _ _ _ _ _ _ us hl => match us, hl with | [_], _ => rfl⟩⟩,
    ⟨⟨_, _, ⟨a74, i74, k74⟩, fun_mk (st := s_Side_begin_stage) l74 c74 k74, (fun_mk (st := s_Side_begin_stage) l74 c74 k74).binds fun _ _ _ _ _ _ us hl => match us, hl with | [_, _], _ => rfl⟩⟩,
    ⟨⟨_, _, ⟨mk79, a79, i79, kc79⟩, fun_mk (st := s_Side_init) l79 c79 k79, (fun_mk (st := s_Side_init) l79 c79 k79).binds fun _ _ _ _ _ _ us hl => match us, hl with | [_, _], _ => rfl⟩⟩,
    ⟨⟨_, _, ⟨mk86, a86, i86, kc86⟩, fun_mk (st := s_Clock_init) l86 c86 k86, (fun_mk (st := s_Clock_init) l86 c86 k86).binds fun _ _ _ _ _ _ us hl => match us, hl with | [_, _], _ => rfl⟩⟩,
    ⟨pgSide, hdSide, poSide, saSide⟩,
    PySem.W.mg_of X G gcSide,
    naSidestages,
    naSidenumber,
    naSidemoves_in_stage,
    naSideleft,
    naSideperiods,
    naSidemoves,
    naSidepassed,
    ⟨pgClock, hdClock, poClock, saClock⟩,
    PySem.W.mg_of X G gcClock,
    naClocksides,
    naClockturn,
    naClockrunning,
    naClockfallen,
    naClockpassed,
    PySem.W.mg_of X G gxClockError,
    ⟨exClockError, gaClockError, gtClockError, glClockError, goClockError, gbClockError⟩,
    PySem.W.mg_of X G gxBadStages,
    ⟨exBadStages, gaBadStages, gtBadStages, glBadStages, goBadStages, gbBadStages⟩,
    PySem.W.mg_of X G gxBadTicks,
    ⟨exBadTicks, gaBadTicks, gtBadTicks, glBadTicks, goBadTicks, gbBadTicks⟩,
    PySem.W.mg_of X G gxNotNow,
    ⟨exNotNow, gaNotNow, gtNotNow, glNotNow, goNotNow, gbNotNow⟩,
    PySem.W.mg_of X G gxOver,
    ⟨exOver, gaOver, gtOver, glOver, goOver, gbOver⟩,
    ⟨_, PySem.W.mg_of X G ccMOST_STAGES⟩,
    ⟨_, PySem.W.mg_of X G ccMOST_MOVES⟩,
    ⟨_, PySem.W.mg_of X G ccMOST_PERIODS⟩,
    ⟨_, PySem.W.mg_of X G ccMOST_TICKS⟩,
    ⟨_, PySem.W.mg_of X G ccMOST_EXTRA⟩,
    PySem.W.mg_none_of X G nnlen,
    PySem.W.mg_none_of X G nnisinstance,
    PySem.W.mg_none_of X G nnrange,
    PySem.W.mg_none_of X G nnenumerate,
    PySem.W.mg_none_of X G nntuple,
    PySem.W.mg_none_of X G nnlist,
    PySem.W.mg_none_of X G nnint,
    PySem.W.mg_none_of X G nnbool,
    PySem.W.mg_none_of X G nnValueError,
    PySem.W.mg_of X G gW,
    fun H => ways_of lW,
    kt0,
    kt1,
    em0,
    ka0⟩
  exact ⟨PySem.W.fnOf "law" "law" (defArgs s_law) (defBody s_law) (defScope s_law) .none kV68 dc68 pm68 an68 cd68 ct68, fun s v => .of_eq rfl, fun base _ _ => ok_law T (fun_mk (st := s_law) l68 c68 k68)⟩
theorem walk {l : PySem.W.OpenLaw} {q : Program} {loose : List Str} {XP : (Str → Option Value) → Heap → Prop} {YP : World → Heap → Prop} {d : DefRec} {K : Params → PySem.W.Frag} (hn : l.most = some 63) (hdf : d.params.defaults = [])
    (hY : ∀ (w : World) (h : Heap), YP w h → (K w.params).In h)
    (F : ∀ (w : World) (mg : Str → Option Value) (fa : Addr) (h : Heap), (K w.params).In h → h.Ns mainGlobals mg → mg d.name = some (.ref fa) →
      ∃ fd : FuncData, (∀ (s : Shared) (u : Value), BindsTo s fd ⟨[u], []⟩ [("_law_script", u)]) ∧ ∀ base : Heap, (K w.params).In base → base.Ns mainGlobals mg → FnOk l.prog w (K w.params) mg base CX0 12 fa fd ["_law_script"] (spLaw (K w.params))) :
    PySem.W.WalkO q loose XP YP l.row.toRowW d [] (fun f vs => PySem.call f vs) :=
  L2.walk_of (n := 63) (k := 12) (x := "_law_script") (CX := fun _ => CX0) (sp := fun w => spLaw (K w.params)) hn (by decide) hdf ⟨rfl, by decide, by decide⟩ hY F (fun _ _ a ns hl _ hS => ⟨a, ns, rfl, hS, hl, fun _ => rfl⟩) fun _ _ _ _ _ z => z
theorem walkX {q : Program} {loose : List Str} {XP : (Str → Option Value) → Heap → Prop} {K : Params → PySem.W.Frag} {as : List Addr} {n t : Nat} {r : PySem.W.RowW} {d : DefRec} {kwd : List (Str × Expr)} {run : Value → List Value → Sem Value} (e : ∀ P, as = (K P).map (·.1))
    (h : PySem.W.WalkO q loose XP (fun w h => (K w.params).In h) r d kwd run) : PySem.W.WalkX q loose XP (PySem.W.X.obsZ as) (PySem.W.X.valZ K n t) r d kwd run :=
  fun w s0 s1 mg mb G y a o pm cd doc dV kV ho hd hcd hD hmg hg args vals as' L hpre hlay hrd hwl hlo => h w s0 s1 mg mb G (PySem.W.InK.keeps w _ _ (PySem.W.X.z_facts e y).2.1 L.keeps) a o pm cd doc dV kV ho hd hcd hD hmg hg args vals as' hpre hlay hrd hwl hlo
end My
open PySem PySem.W PySem.W.X PyProof.Rows
set_option maxRecDepth 100000 in
set_option maxHeartbeats 0 in
theorem PySem.Challenge.cw_chessclock_k01_bad_stages_holds : PySem.Challenge.rw_chessclock_k01_bad_stages.Holds := by
  w_on; o_law; z_head; (case hw => w_witness2)
  k_fill
  refine My.walkX ?KE (My.walk (l := PySem.Challenge.rw_chessclock_k01_bad_stages) rfl rfl (fun w h Y => Y) ?F)
  case KE => intro P; kernel_rfl
  case F =>
    intro w mg fa h KX G hmg
    refine' My.all_mk KX G hmg ?a0 ?l0 ?c0 ?k0 ?a4 ?l4 ?c4 ?k4 ?a8 ?l8 ?c8 ?k8 ?a12 ?l12 ?c12 ?k12 ?a16 ?l16 ?c16 ?k16 ?a20 ?l20 ?c20 ?k20 ?a24 ?l24 ?c24 ?k24 ?a28 ?l28 ?c28 ?k28 ?a32 ?l32 ?c32 ?k32 ?a36 ?l36 ?c36 ?k36 ?a40 ?l40 ?c40 ?k40 ?a44 ?l44 ?c44 ?k44 ?a48 ?l48 ?c48 ?k48 ?a52 ?l52 ?c52 ?k52 ?a56 ?l56 ?c56 ?k56 ?a60 ?l60 ?c60 ?k60 ?a64 ?l64 ?c64 ?k64 ?a68 ?l68 ?c68 ?k68 ?gcSide ?gcClock ?a74 ?i74 ?l74 ?c74 ?k74 ?a79 ?i79 ?l79 ?c79 ?k79 ?mk79 ?kc79 ?a86 ?i86 ?l86 ?c86 ?k86 ?mk86 ?kc86 ?pgSide ?hdSide ?poSide ?saSide ?naSidestages ?naSidenumber ?naSidemoves_in_stage ?naSideleft ?naSideperiods ?naSidemoves ?naSidepassed ?pgClock ?hdClock ?poClock ?saClock ?naClocksides ?naClockturn ?naClockrunning ?naClockfallen ?naClockpassed ?gxClockError ?exClockError ?gaClockError ?gtClockError ?glClockError ?goClockError ?gbClockError ?gxBadStages ?exBadStages ?gaBadStages ?gtBadStages ?glBadStages ?goBadStages ?gbBadStages ?gxBadTicks ?exBadTicks ?gaBadTicks ?gtBadTicks ?glBadTicks ?goBadTicks ?gbBadTicks ?gxNotNow ?exNotNow ?gaNotNow ?gtNotNow ?glNotNow ?goNotNow ?gbNotNow ?gxOver ?exOver ?gaOver ?gtOver ?glOver ?goOver ?gbOver ?ccMOST_STAGES ?ccMOST_MOVES ?ccMOST_PERIODS ?ccMOST_TICKS ?ccMOST_EXTRA ?nnlen ?nnisinstance ?nnrange ?nnenumerate ?nntuple ?nnlist ?nnint ?nnbool ?nnValueError ?gW ?lW ?kt0 ?kt1 ?em0 ?ka0
    (case a0 => k_is)
    (case l0 => k_is)
    (case c0 => k_is)
    (case k0 => k_is)
    (case a4 => k_is)
    (case l4 => k_is)
    (case c4 => k_is)
    (case k4 => k_is)
    (case a8 => k_is)
    (case l8 => k_is)
    (case c8 => k_is)
    (case k8 => k_is)
    (case a12 => k_is)
    (case l12 => k_is)
    (case c12 => k_is)
    (case k12 => k_is)
    (case a16 => k_is)
    (case l16 => k_is)
    (case c16 => k_is)
    (case k16 => k_is)
    (case a20 => k_is)
    (case l20 => k_is)
    (case c20 => k_is)
    (case k20 => k_is)
    (case a24 => k_is)
    (case l24 => k_is)
    (case c24 => k_is)
    (case k24 => k_is)
    (case a28 => k_is)
    (case l28 => k_is)
    (case c28 => k_is)
    (case k28 => k_is)
    (case a32 => k_is)
    (case l32 => k_is)
    (case c32 => k_is)
    (case k32 => k_is)
    (case a36 => k_is)
    (case l36 => k_is)
    (case c36 => k_is)
    (case k36 => k_is)
    (case a40 => k_is)
    (case l40 => k_is)
    (case c40 => k_is)
    (case k40 => k_is)
    (case a44 => k_is)
    (case l44 => k_is)
    (case c44 => k_is)
    (case k44 => k_is)
    (case a48 => k_is)
    (case l48 => k_is)
    (case c48 => k_is)
    (case k48 => k_is)
    (case a52 => k_is)
    (case l52 => k_is)
    (case c52 => k_is)
    (case k52 => k_is)
    (case a56 => k_is)
    (case l56 => k_is)
    (case c56 => k_is)
    (case k56 => k_is)
    (case a60 => k_is)
    (case l60 => k_is)
    (case c60 => k_is)
    (case k60 => k_is)
    (case a64 => k_is)
    (case l64 => k_is)
    (case c64 => k_is)
    (case k64 => k_is)
    (case a68 => k_is)
    (case l68 => k_is)
    (case c68 => k_is)
    (case k68 => k_is)
    (case gcSide => k_is)
    (case gcClock => k_is)
    (case a74 => k_is)
    (case i74 => k_is)
    (case l74 => k_is)
    (case c74 => k_is)
    (case k74 => k_is)
    (case a79 => k_is)
    (case i79 => k_is)
    (case l79 => k_is)
    (case c79 => k_is)
    (case k79 => k_is)
    (case mk79 => k_is)
    (case kc79 => k_is)
    (case a86 => k_is)
    (case i86 => k_is)
    (case l86 => k_is)
    (case c86 => k_is)
    (case k86 => k_is)
    (case mk86 => k_is)
    (case kc86 => k_is)
    (case pgSide => k_is)
    (case hdSide => k_is)
    (case poSide => k_is)
    (case saSide => k_is)
    (case naSidestages => k_is)
    (case naSidenumber => k_is)
    (case naSidemoves_in_stage => k_is)
    (case naSideleft => k_is)
    (case naSideperiods => k_is)
    (case naSidemoves => k_is)
    (case naSidepassed => k_is)
    (case pgClock => k_is)
    (case hdClock => k_is)
    (case poClock => k_is)
    (case saClock => k_is)
    (case naClocksides => k_is)
    (case naClockturn => k_is)
    (case naClockrunning => k_is)
    (case naClockfallen => k_is)
    (case naClockpassed => k_is)
    (case gxClockError => k_is)
    (case exClockError => k_exc)
    (case gaClockError => k_is)
    (case gtClockError => k_is)
    (case glClockError => k_is)
    (case goClockError => k_is)
    (case gbClockError => k_is)
    (case gxBadStages => k_is)
    (case exBadStages => k_exc)
    (case gaBadStages => k_is)
    (case gtBadStages => k_is)
    (case glBadStages => k_is)
    (case goBadStages => k_is)
    (case gbBadStages => k_is)
    (case gxBadTicks => k_is)
    (case exBadTicks => k_exc)
    (case gaBadTicks => k_is)
    (case gtBadTicks => k_is)
    (case glBadTicks => k_is)
    (case goBadTicks => k_is)
    (case gbBadTicks => k_is)
    (case gxNotNow => k_is)
    (case exNotNow => k_exc)
    (case gaNotNow => k_is)
    (case gtNotNow => k_is)
    (case glNotNow => k_is)
    (case goNotNow => k_is)
    (case gbNotNow => k_is)
    (case gxOver => k_is)
    (case exOver => k_exc)
    (case gaOver => k_is)
    (case gtOver => k_is)
    (case glOver => k_is)
    (case goOver => k_is)
    (case gbOver => k_is)
    (case ccMOST_STAGES => k_is)
    (case ccMOST_MOVES => k_is)
    (case ccMOST_PERIODS => k_is)
    (case ccMOST_TICKS => k_is)
    (case ccMOST_EXTRA => k_is)
    (case nnlen => k_is)
    (case nnisinstance => k_is)
    (case nnrange => k_is)
    (case nnenumerate => k_is)
    (case nntuple => k_is)
    (case nnlist => k_is)
    (case nnint => k_is)
    (case nnbool => k_is)
    (case nnValueError => k_is)
    (case gW => k_is)
    (case lW => k_is)
    (case kt0 => kit_is)
    (case kt1 => kit_is)
    (case em0 => kts_exm)
    (case ka0 => kit_is)


